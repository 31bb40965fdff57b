
/- Rows of strings; texts with blanks between them, or a dash. -/
import Derived.Test.YthpejolljkbenaaDoorFas
import Derived.Test.YthpejolljkbenaaDoorAppR
import Derived.Test.YthpejolljkbenaaDoorRet
import Derived.Test.YthpejolljkbenaaDoorSStep
import Derived.Test.YthpejolljkbenaaDoorStepI
import Derived.Test.YthpejolljkbenaaDoorOPathPart
import Derived.Test.YthpejolljkbenaaDoorWt
namespace Go.Proofs.YthpejolljkbenaaDoor
open Go Go.ChangeShapes Go.WideShapes Go.ChangeAt Go.RowKit
set_option linter.unusedVariables false
def strC (x : ByteArray) (j : Nat) : Value := .string x
theorem oneStr : ∀ (x : ByteArray) (j : Nat), (strC x j).oneCell' = true := fun _ _ => rfl
theorem infoStr : (Tryd.prog.info? 9).map (fun i => (i.zero, i.size, i.bytes)) = some (some (.string ⟨#[]⟩), 1, 16) := by kernel_rfl
def tl (f : Nat → ByteArray) (k : Nat) : List ByteArray := (List.range k).map f
theorem tl_len (f : Nat → ByteArray) (k : Nat) : (tl f k).length = k := by simp [tl]
theorem tl_succ (f : Nat → ByteArray) (k : Nat) : tl f (k + 1) = tl f k ++ [f k] := by simp [tl, List.range_succ]
theorem tl_get (f : Nat → ByteArray) {k j : Nat} {x : ByteArray} (h : (tl f k)[j]? = some x) : j < k ∧ x = f j := by
  obtain ⟨hj, he⟩ := List.getElem?_eq_some_iff.1 h
  rw [tl_len] at hj
  exact ⟨hj, by rw [← he]; simp [tl]⟩
/-- The first k texts, a blank between any two. -/
def joF (f : Nat → ByteArray) : Nat → ByteArray
  | 0 => ⟨#[]⟩
  | k + 1 => (if k = 0 then joF f k else joF f k ++ ⟨#[32]⟩) ++ f k
def jdF (f : Nat → ByteArray) (n : Nat) : ByteArray := if n = 0 then ⟨#[45]⟩ else joF f n
theorem joF_size {f : Nat → ByteArray} {n m : Nat} (hf : ∀ k, k < n → (f k).size ≤ m) : ∀ k, k ≤ n → (joF f k).size ≤ (m + 1) * k
  | 0, _ => Nat.le_of_eq rfl
  | k + 1, h => by
    have h1 := joF_size hf k (by omega)
    have h2 := hf k (by omega)
    have h3 : (m + 1) * (k + 1) = (m + 1) * k + (m + 1) := Nat.mul_succ _ _
    rw [joF, ByteArray.size_append]
    split
    · omega
    · rw [ByteArray.size_append]
      have : (⟨#[32]⟩ : ByteArray).size = 1 := rfl
      omega
theorem data_app (a b : ByteArray) : (a ++ b).data.toList = a.data.toList ++ b.data.toList := by
  rw [ByteArray.data_append, Array.toList_append]
theorem join_snoc (L : List (List UInt8)) (l sep : List UInt8) (h : L ≠ []) : Lib.join (L ++ [l]) sep = Lib.join L sep ++ sep ++ l := by
  cases L with
  | nil => exact absurd rfl h
  | cons x r => rw [List.cons_append, Lib.join_cons, Lib.join_cons]; simp [Lib.joinTail]
theorem joF_join (f : Nat → ByteArray) : ∀ k, 0 < k → (joF f k).data.toList = Lib.join ((tl f k).map (·.data.toList)) [32]
  | 0, h => absurd h (by omega)
  | 1, _ => by
    show (⟨#[]⟩ ++ f 0 : ByteArray).data.toList = _
    rw [data_app]
    simp [tl, Lib.join_one]
  | k + 2, _ => by
    have ih := joF_join f (k + 1) (by omega)
    rw [joF, if_neg (by omega), data_app, data_app, ih, tl_succ f (k + 1), List.map_append, List.map_cons, List.map_nil, join_snoc _ _ _ (by rw [tl_succ]; simp)]
theorem retJ {f : Nat → ByteArray} {n : Nat} (h : 0 < n) : (⟨(Lib.join ((tl f n).map (·.data.toList)) [32]).toArray⟩ : ByteArray) = jdF f n := by
  rw [← joF_join f n h, jdF, if_neg (by omega)]
set_option maxRecDepth 100000 in
set_option maxHeartbeats 4000000 in
theorem implJoD (f : Nat → ByteArray) (a : Option Addr) (n c B : Nat) (w : World) (h : HasR 1 strC w B a n (tl f n)) (hB : B ≤ w.heap.size) (hn : n ≤ 1048576) (hc : n ≤ c) (hf : ∀ k, k < n → (f k).size ≤ 1000) :
    Calls Tryd.prog 33 #[.slice a n c] w fun e w' => e = .returned (.string (jdF f n)) ∧ Mk0 w w' := by
  by_cases hz : n = 0
  · subst hz
    go_enter Tryd.func33, Tryd.ntmps33
    go_wp2_with fail
    go_ret
    exact ⟨rfl, Mk.refl _ _ _⟩
  · obtain ⟨b, off, rfl, hb, hcell⟩ := h.2 (by omega)
    have hcells : ∀ (j : Nat) x, (tl f n)[j]? = some x → w.cell? ⟨b, off + j, none⟩ = some (.string x) := fun j x hx => by
      obtain ⟨hj, rfl⟩ := tl_get f hx
      rw [hcell j (by omega)]
      unfold flat strC
      rw [Nat.div_one]
      congr 1
      simp [tl, List.getD_eq_getElem?_getD, hj]
    have hsz := joF_size hf n (Nat.le_refl _)
    have hlen : (Lib.join ((tl f n).map (·.data.toList)) (⟨#[32]⟩ : ByteArray).data.toList).length ≤ 140737488355328 := by
      show (Lib.join ((tl f n).map (·.data.toList)) [32]).length ≤ _
      rw [← joF_join f n (by omega)]
      have hs : (joF f n).data.toList.length = (joF f n).size := rfl
      rw [hs]
      have : 1001 * n ≤ 1001 * 1048576 := Nat.mul_le_mul_left _ hn
      omega
    have HJ := Lib.hid (Tryd.strings_Join b off c (tl f n) ⟨#[32]⟩ w hcells (by omega) (by rw [tl_len]; omega) (by rw [tl_len]; exact hc) hlen)
    rw [tl_len] at HJ
    have i1 : (0 : Int) < (n : Int) := by omega
    clear hcells hlen hsz hcell
    go_enter Tryd.func33, Tryd.ntmps33
    go_wp2_with fail
    refine HJ.out.mono ?_
    rintro e w2 ⟨rfl, b2⟩
    go_wp2_with fail
    go_ret
    exact ⟨retT (retJ (by omega)), Mk.of_below b2⟩

end Go.Proofs.YthpejolljkbenaaDoor
namespace Go.Proofs.YthpejolljkbenaaDoor
open Go Go.ChangeShapes Go.WideShapes Go.ChangeAt Go.RowKit
set_option linter.unusedVariables false
def stT (zs : List TAS) (n0 : Nat) (y : TStep) : ByteArray := tI y.ing ++ ⟨#[62]⟩ ++ asT zs n0 y.nd ++ ⟨#[62]⟩ ++ tI y.eg
theorem stT_size {zs : List TAS} {n0 : Nat} {y : TStep} (hl : zs.length = n0) (hz : ∀ y ∈ zs, TAS.fits y) (hy : TStep.fits y) : (stT zs n0 y).size ≤ 87 :=
  size_app (p := 66) (size_app (p := 65) (size_app (p := 22) (size_app (p := 21) (tI_size (i64_of hy.2.1).1 (i64_of hy.2.1).2) (one1 62)) (asT_size hl hz (i64_of hy.1).1 (i64_of hy.1).2)) (one1 62)) (tI_size (i64_of hy.2.2).1 (i64_of hy.2.2).2)
set_option maxRecDepth 100000 in
set_option maxHeartbeats 4000000 in
theorem implStF (a0 a1 : Option Addr) (n0 c0 n1 c1 B : Nat) (zs : List TAS) (y : TStep) (w : World) (h : HasAS w B a0 n0 zs) (hB : B ≤ w.heap.size) (hn0 : n0 ≤ 1048576) (hz : ∀ y ∈ zs, TAS.fits y) (hy : TStep.fits y) (htab : Lib.TabIs Tryd.prog w "internal/strconv.uint64pow10" .u64 Lib.pow10Tab) :
    Calls Tryd.prog 48 #[.agg #[.int .i64 y.nd, .int .i64 y.ing, .int .i64 y.eg], .agg #[.slice a0 n0 c0, .slice a1 n1 c1]] w fun e w' => e = .returned (.string (stT zs n0 y)) ∧ Mk0 w w' := by
  have M0 := (Mk.alloc w (Obj.cells #[Value.int .i64 y.nd, Value.int .i64 y.ing, Value.int .i64 y.eg] 96)).new (Obj.cells #[Value.slice a0 n0 c0, Value.slice a1 n1 c1] 31)
  have y0 : ((w.alloc (Obj.cells #[Value.int .i64 y.nd, Value.int .i64 y.ing, Value.int .i64 y.eg] 96)).alloc (Obj.cells #[Value.slice a0 n0 c0, Value.slice a1 n1 c1] 31)).cell? ⟨w.heap.size, 0, none⟩ = some (.int .i64 y.nd) := by simp [go_sem]
  have y1 : ((w.alloc (Obj.cells #[Value.int .i64 y.nd, Value.int .i64 y.ing, Value.int .i64 y.eg] 96)).alloc (Obj.cells #[Value.slice a0 n0 c0, Value.slice a1 n1 c1] 31)).cell? ⟨w.heap.size, 1, none⟩ = some (.int .i64 y.ing) := by simp [go_sem]
  have y2 : ((w.alloc (Obj.cells #[Value.int .i64 y.nd, Value.int .i64 y.ing, Value.int .i64 y.eg] 96)).alloc (Obj.cells #[Value.slice a0 n0 c0, Value.slice a1 n1 c1] 31)).cell? ⟨w.heap.size, 2, none⟩ = some (.int .i64 y.eg) := by simp [go_sem]
  have k0 : ((w.alloc (Obj.cells #[Value.int .i64 y.nd, Value.int .i64 y.ing, Value.int .i64 y.eg] 96)).alloc (Obj.cells #[Value.slice a0 n0 c0, Value.slice a1 n1 c1] 31)).cell? ⟨w.heap.size + 1, 0, none⟩ = some (.slice a0 n0 c0) := by simp [go_sem]
  have k1 : ((w.alloc (Obj.cells #[Value.int .i64 y.nd, Value.int .i64 y.ing, Value.int .i64 y.eg] 96)).alloc (Obj.cells #[Value.slice a0 n0 c0, Value.slice a1 n1 c1] 31)).cell? ⟨w.heap.size + 1, 1, none⟩ = some (.slice a1 n1 c1) := by simp [go_sem]
  have fn := i64_of hy.1
  have fi := i64_of hy.2.1
  have fe := i64_of hy.2.2
  have ad0 := add_ok (tI y.ing) (⟨#[62]⟩) (p := 21) (q := 1) (tI_size fi.1 fi.2) (one1 62) (by decide)
  have ad1 := add_ok (tI y.ing ++ ⟨#[62]⟩) (asT zs n0 y.nd) (p := 22) (q := 43) (size_app (p := 21) (q := 1) (tI_size fi.1 fi.2) (one1 62)) (asT_size h.1 hz fn.1 fn.2) (by decide)
  have ad2 := add_ok (tI y.ing ++ ⟨#[62]⟩ ++ asT zs n0 y.nd) (⟨#[62]⟩) (p := 65) (q := 1) (size_app (p := 22) (q := 43) (size_app (p := 21) (q := 1) (tI_size fi.1 fi.2) (one1 62)) (asT_size h.1 hz fn.1 fn.2)) (one1 62) (by decide)
  have ad3 := add_ok (tI y.ing ++ ⟨#[62]⟩ ++ asT zs n0 y.nd ++ ⟨#[62]⟩) (tI y.eg) (p := 66) (q := 21) (size_app (p := 65) (q := 1) (size_app (p := 22) (q := 43) (size_app (p := 21) (q := 1) (tI_size fi.1 fi.2) (one1 62)) (asT_size h.1 hz fn.1 fn.2)) (one1 62)) (tI_size fe.1 fe.2) (by decide)
  have HZ := Lib.hid hz
  clear hz
  go_enter Tryd.func48, Tryd.ntmps48
  go_wp2_with fail
  refine wp_region_wk (fun w' => Mk0 ((w.alloc (Obj.cells #[Value.int .i64 y.nd, Value.int .i64 y.ing, Value.int .i64 y.eg] 96)).alloc (Obj.cells #[Value.slice a0 n0 c0, Value.slice a1 n1 c1] 31)) w' ∧ w'.cell? ⟨w.heap.size, 0, none⟩ = some (.int .i64 y.nd) ∧ w'.cell? ⟨w.heap.size, 1, none⟩ = some (.int .i64 y.ing) ∧ w'.cell? ⟨w.heap.size, 2, none⟩ = some (.int .i64 y.eg) ∧ w'.cell? ⟨w.heap.size + 1, 0, none⟩ = some (.slice a0 n0 c0) ∧ w'.cell? ⟨w.heap.size + 1, 1, none⟩ = some (.slice a1 n1 c1)) (by kernel_rfl) (by kernel_rfl) (⟨Mk.drew1 _, y0, y1, y2, k0, k1⟩) ?_
  change Wk _ _ _ _ 15 0 _
  first | (refine Wk.skip (m := 14) (k := 0) rfl (by rfl) ?_) | (refine Wk.step (m := 14) (k := 0) (v := _) rfl (by rfl) (fun wv hS => by obtain ⟨s0, s1, s2, s3, s4, s5⟩ := hS; go_simp; try with_reducible rfl) ?_)
  try simp only [Act.put, List.getElem_toArray, List.getElem_cons_zero, List.setIfInBounds_toArray, List.set_cons_zero, List.set_cons_succ]
  first | (refine Wk.skip (m := 13) (k := 1) rfl (by rfl) ?_) | (refine Wk.step (m := 13) (k := 1) (v := _) rfl (by rfl) (fun wv hS => by obtain ⟨s0, s1, s2, s3, s4, s5⟩ := hS; go_simp; try with_reducible rfl) ?_)
  try simp only [Act.put, List.getElem_toArray, List.getElem_cons_succ, List.getElem_cons_zero, List.setIfInBounds_toArray, List.set_cons_zero, List.set_cons_succ]
  refine Wk.call (m := 12) (k := 2) (v := .string (tI y.ing)) _ _ rfl (by rfl) (fun wv hS => by obtain ⟨s0, s1, s2, s3, s4, s5⟩ := hS; go_simp; first | done | exact ⟨rfl, rfl⟩ | with_reducible rfl) (fun wv hS => ?_) ?_; · obtain ⟨s0, s1, s2, s3, s4, s5⟩ := hS; refine (implFI y.ing fi.1 fi.2 wv (tab_mk htab (M0.trans s0))).mono ?_; rintro e w' ⟨he, mm⟩; exact ⟨he, s0.trans mm, mm.cellAt s1, mm.cellAt s2, mm.cellAt s3, mm.cellAt s4, mm.cellAt s5⟩
  try simp only [Act.put, List.getElem_toArray, List.getElem_cons_succ, List.getElem_cons_zero, List.setIfInBounds_toArray, List.set_cons_zero, List.set_cons_succ]
  first | (refine Wk.skip (m := 11) (k := 3) rfl (by rfl) ?_) | (refine Wk.step (m := 11) (k := 3) (v := _) rfl (by rfl) (fun wv hS => by obtain ⟨s0, s1, s2, s3, s4, s5⟩ := hS; go_simp; try with_reducible rfl) ?_)
  try simp only [Act.put, List.getElem_toArray, List.getElem_cons_succ, List.getElem_cons_zero, List.setIfInBounds_toArray, List.set_cons_zero, List.set_cons_succ]
  first | (refine Wk.skip (m := 10) (k := 4) rfl (by rfl) ?_) | (refine Wk.step (m := 10) (k := 4) (v := _) rfl (by rfl) (fun wv hS => by obtain ⟨s0, s1, s2, s3, s4, s5⟩ := hS; go_simp; try with_reducible rfl) ?_)
  try simp only [Act.put, List.getElem_toArray, List.getElem_cons_succ, List.getElem_cons_zero, List.setIfInBounds_toArray, List.set_cons_zero, List.set_cons_succ]
  first | (refine Wk.skip (m := 9) (k := 5) rfl (by rfl) ?_) | (refine Wk.step (m := 9) (k := 5) (v := _) rfl (by rfl) (fun wv hS => by obtain ⟨s0, s1, s2, s3, s4, s5⟩ := hS; go_simp; try with_reducible rfl) ?_)
  try simp only [Act.put, List.getElem_toArray, List.getElem_cons_succ, List.getElem_cons_zero, List.setIfInBounds_toArray, List.set_cons_zero, List.set_cons_succ]
  first | (refine Wk.skip (m := 8) (k := 6) rfl (by rfl) ?_) | (refine Wk.step (m := 8) (k := 6) (v := _) rfl (by rfl) (fun wv hS => by obtain ⟨s0, s1, s2, s3, s4, s5⟩ := hS; go_simp; try with_reducible rfl) ?_)
  try simp only [Act.put, List.getElem_toArray, List.getElem_cons_succ, List.getElem_cons_zero, List.setIfInBounds_toArray, List.set_cons_zero, List.set_cons_succ]
  refine Wk.call (m := 7) (k := 7) (v := .string (asT zs n0 y.nd)) _ _ rfl (by rfl) (fun wv hS => by obtain ⟨s0, s1, s2, s3, s4, s5⟩ := hS; go_simp; first | done | exact ⟨rfl, rfl⟩ | with_reducible rfl) (fun wv hS => ?_) ?_; · obtain ⟨s0, s1, s2, s3, s4, s5⟩ := hS; refine (implFAS a0 a1 n0 c0 n1 c1 B zs y.nd wv (h.mk (M0.trans s0) hB (.inr (Nat.le_refl _))) (Nat.le_trans hB (M0.trans s0).size) hn0 HZ.out fn.1 fn.2 (tab_mk htab (M0.trans s0))).mono ?_; rintro e w' ⟨he, mm⟩; exact ⟨he, s0.trans mm, mm.cellAt s1, mm.cellAt s2, mm.cellAt s3, mm.cellAt s4, mm.cellAt s5⟩
  try simp only [Act.put, List.getElem_toArray, List.getElem_cons_succ, List.getElem_cons_zero, List.setIfInBounds_toArray, List.set_cons_zero, List.set_cons_succ]
  first | (refine Wk.skip (m := 6) (k := 8) rfl (by rfl) ?_) | (refine Wk.step (m := 6) (k := 8) (v := _) rfl (by rfl) (fun wv hS => by obtain ⟨s0, s1, s2, s3, s4, s5⟩ := hS; go_simp; try with_reducible rfl) ?_)
  try simp only [Act.put, List.getElem_toArray, List.getElem_cons_succ, List.getElem_cons_zero, List.setIfInBounds_toArray, List.set_cons_zero, List.set_cons_succ]
  first | (refine Wk.skip (m := 5) (k := 9) rfl (by rfl) ?_) | (refine Wk.step (m := 5) (k := 9) (v := _) rfl (by rfl) (fun wv hS => by obtain ⟨s0, s1, s2, s3, s4, s5⟩ := hS; go_simp; try with_reducible rfl) ?_)
  try simp only [Act.put, List.getElem_toArray, List.getElem_cons_succ, List.getElem_cons_zero, List.setIfInBounds_toArray, List.set_cons_zero, List.set_cons_succ]
  first | (refine Wk.skip (m := 4) (k := 10) rfl (by rfl) ?_) | (refine Wk.step (m := 4) (k := 10) (v := _) rfl (by rfl) (fun wv hS => by obtain ⟨s0, s1, s2, s3, s4, s5⟩ := hS; go_simp; try with_reducible rfl) ?_)
  try simp only [Act.put, List.getElem_toArray, List.getElem_cons_succ, List.getElem_cons_zero, List.setIfInBounds_toArray, List.set_cons_zero, List.set_cons_succ]
  first | (refine Wk.skip (m := 3) (k := 11) rfl (by rfl) ?_) | (refine Wk.step (m := 3) (k := 11) (v := _) rfl (by rfl) (fun wv hS => by obtain ⟨s0, s1, s2, s3, s4, s5⟩ := hS; go_simp; try with_reducible rfl) ?_)
  try simp only [Act.put, List.getElem_toArray, List.getElem_cons_succ, List.getElem_cons_zero, List.setIfInBounds_toArray, List.set_cons_zero, List.set_cons_succ]
  refine Wk.call (m := 2) (k := 12) (v := .string (tI y.eg)) _ _ rfl (by rfl) (fun wv hS => by obtain ⟨s0, s1, s2, s3, s4, s5⟩ := hS; go_simp; first | done | exact ⟨rfl, rfl⟩ | with_reducible rfl) (fun wv hS => ?_) ?_; · obtain ⟨s0, s1, s2, s3, s4, s5⟩ := hS; refine (implFI y.eg fe.1 fe.2 wv (tab_mk htab (M0.trans s0))).mono ?_; rintro e w' ⟨he, mm⟩; exact ⟨he, s0.trans mm, mm.cellAt s1, mm.cellAt s2, mm.cellAt s3, mm.cellAt s4, mm.cellAt s5⟩
  try simp only [Act.put, List.getElem_toArray, List.getElem_cons_succ, List.getElem_cons_zero, List.setIfInBounds_toArray, List.set_cons_zero, List.set_cons_succ]
  first | (refine Wk.skip (m := 1) (k := 13) rfl (by rfl) ?_) | (refine Wk.step (m := 1) (k := 13) (v := _) rfl (by rfl) (fun wv hS => by obtain ⟨s0, s1, s2, s3, s4, s5⟩ := hS; go_simp; try with_reducible rfl) ?_)
  try simp only [Act.put, List.getElem_toArray, List.getElem_cons_succ, List.getElem_cons_zero, List.setIfInBounds_toArray, List.set_cons_zero, List.set_cons_succ]
  first | (refine Wk.skip (m := 0) (k := 14) rfl (by rfl) ?_) | (refine Wk.step (m := 0) (k := 14) (v := _) rfl (by rfl) (fun wv hS => by obtain ⟨s0, s1, s2, s3, s4, s5⟩ := hS; go_simp; try with_reducible rfl) ?_)
  try simp only [Act.put, List.getElem_toArray, List.getElem_cons_succ, List.getElem_cons_zero, List.setIfInBounds_toArray, List.set_cons_zero, List.set_cons_succ]
  refine Wk.done fun wE hE => ?_
  clear y0 y1 y2 k0 k1
  obtain ⟨mE, y0, y1, y2, k0, k1⟩ := hE
  go_wp2_with fail
  go_ret
  exact ⟨rfl, M0.trans mE⟩

end Go.Proofs.YthpejolljkbenaaDoor
namespace Go.Proofs.YthpejolljkbenaaDoor
open Go Go.ChangeShapes Go.WideShapes Go.ChangeAt Go.RowKit
set_option linter.unusedVariables false
theorem hop_f0 {hs : List THop} (hf : ∀ y ∈ hs, THop.fits y) (k : Nat) : THop.fits (hs.getD k default) := by
  rw [List.getD_eq_getElem?_getD]
  rcases Nat.lt_or_ge k hs.length with h | h
  · rw [List.getElem?_eq_getElem h]; exact hf _ (List.getElem_mem _)
  · rw [List.getElem?_eq_none h]; exact ⟨by decide, by decide, by decide, by decide, by decide⟩
theorem stp_f0 {l : List TStep} (hf : ∀ y ∈ l, TStep.fits y) (k : Nat) : TStep.fits (l.getD k default) := by
  rw [List.getD_eq_getElem?_getD]
  rcases Nat.lt_or_ge k l.length with h | h
  · rw [List.getElem?_eq_getElem h]; exact hf _ (List.getElem_mem _)
  · rw [List.getElem?_eq_none h]; exact ⟨by decide, by decide, by decide⟩
theorem prt_f0 {l : List TPathPart} (hf : ∀ y ∈ l, TPathPart.fits y) (k : Nat) : ∀ y ∈ (l.getD k default).hops, THop.fits y := by
  rw [List.getD_eq_getElem?_getD]
  rcases Nat.lt_or_ge k l.length with h | h
  · rw [List.getElem?_eq_getElem h]; exact (hf _ (List.getElem_mem _)).2.2.2
  · rw [List.getElem?_eq_none h]; intro y hy; exact absurd hy (by show y ∉ ([] : List THop); simp)
theorem stOf_fits {x : TPathPart} (hf : ∀ y ∈ x.hops, THop.fits y) (k : Nat) : TStep.fits (stOf x k) := by
  refine ⟨(hop_f0 hf k).1, ?_, ?_⟩
  · show (Lit.int .i64 (pInV x.kind x.hops x.hops.length k)).wf = true
    unfold pInV
    split
    · split
      · exact (hop_f0 hf _).2.2.1
      · exact (hop_f0 hf _).2.1
    · decide
  · show (Lit.int .i64 (pOutV x.kind x.hops x.hops.length k)).wf = true
    unfold pOutV
    split
    · split
      · exact (hop_f0 hf _).2.1
      · exact (hop_f0 hf _).2.2.1
    · decide
theorem stL_fits {x : TPathPart} (hf : ∀ y ∈ x.hops, THop.fits y) : ∀ k, ∀ y ∈ stL x k, TStep.fits y
  | 0, y, h => by cases h
  | k + 1, y, h => by
    rw [stL, List.mem_append] at h
    rcases h with h | h
    · exact stL_fits hf k y h
    · rw [List.mem_singleton.1 h]; exact stOf_fits hf k
theorem joinS_fits {l s : List TStep} (hl : ∀ y ∈ l, TStep.fits y) (hs : ∀ y ∈ s, TStep.fits y) : ∀ y ∈ joinS l s, TStep.fits y := by
  intro y hy
  unfold joinS at hy
  split at hy
  · rw [List.mem_append, List.mem_cons] at hy
    rcases hy with hy | hy | hy
    · exact hl _ (List.dropLast_subset _ hy)
    · subst hy
      have h1 := stp_f0 hl (l.length - 1)
      have h2 := stp_f0 hs 0
      exact ⟨h1.1, h1.2.1, h2.2.2⟩
    · exact hs _ (List.mem_of_mem_tail hy)
  · rw [List.mem_append] at hy
    rcases hy with hy | hy
    · exact hl _ hy
    · exact hs _ hy
theorem stepsUp_fits {ps : List TPathPart} (hf : ∀ y ∈ ps, TPathPart.fits y) : ∀ k, ∀ y ∈ stepsUp ps k, TStep.fits y
  | 0, y, h => by cases h
  | k + 1, y, h => joinS_fits (stepsUp_fits hf k) (stL_fits (prt_f0 hf k) _) y h
theorem pathSt_fits {ps : List TPathPart} (hf : ∀ y ∈ ps, TPathPart.fits y) (n : Nat) : ∀ y ∈ pathSt ps n, TStep.fits y := by
  have h0 := stepsUp_fits hf n
  unfold pathSt finS
  split
  · exact h0
  · have h1 : ∀ y ∈ fin1 (stepsUp ps n), TStep.fits y := fun y hy => by
      rcases List.mem_or_eq_of_mem_set hy with h | h
      · exact h0 _ h
      · have := stp_f0 h0 0
        subst h
        exact ⟨this.1, (show (Lit.int .i64 0).wf = true by decide), this.2.2⟩
    intro y hy
    rcases List.mem_or_eq_of_mem_set hy with h | h
    · exact h1 _ h
    · have := stp_f0 h1 ((fin1 (stepsUp ps n)).length - 1)
      subst h
      exact ⟨this.1, this.2.1, (show (Lit.int .i64 0).wf = true by decide)⟩
def pthF (zs : List TAS) (n0 : Nat) (ys : List TStep) (k : Nat) : ByteArray := stT zs n0 (ys.getD k default)
def pthT (zs : List TAS) (n0 : Nat) (ps : List TPathPart) (n : Nat) : ByteArray := jdF (pthF zs n0 (pathSt ps n)) (pathSt ps n).length
theorem pthT_size {zs : List TAS} {n0 n : Nat} {ps : List TPathPart} (hl : zs.length = n0) (hz : ∀ y ∈ zs, TAS.fits y) (hf : ∀ y ∈ ps, TPathPart.fits y) (hn : szPathPart ps n ≤ 1048576) : (pthT zs n0 ps n).size ≤ 100000000 := by
  unfold pthT jdF
  split
  · exact (by decide : (1 : Nat) ≤ 100000000)
  · have h1 := joF_size (f := pthF zs n0 (pathSt ps n)) (n := (pathSt ps n).length) (m := 87) (fun k _ => stT_size hl hz (stp_f0 (pathSt_fits hf n) k)) _ (Nat.le_refl _)
    have h2 := pathSt_le ps n
    have h3 : (87 + 1) * (pathSt ps n).length ≤ (87 + 1) * 1048576 := Nat.mul_le_mul_left _ (Nat.le_trans h2 hn)
    omega
set_option maxRecDepth 100000 in
set_option maxHeartbeats 4000000 in
theorem specFPath (a0 a1 : Option Addr) (n0 c0 n1 c1 B : Nat) (zs : List TAS) (a : Option Addr) (n c B' : Nat) (ps : List TPathPart) (w : World) (h : HasAS w B a0 n0 zs) (hB : B ≤ w.heap.size) (hn0 : n0 ≤ 1048576) (hz : ∀ y ∈ zs, TAS.fits y) (hp : HasPathPart w B' a n ps) (hB' : B' ≤ w.heap.size) (hn : szPathPart ps n ≤ 1048576) (hf : ∀ y ∈ ps, TPathPart.fits y) :
    Calls Tryd.prog 18 #[.agg #[.slice a0 n0 c0, .slice a1 n1 c1], .agg #[.slice a n c]] w fun e w' => e = .returned (.string (pthT zs n0 ps n)) ∧ Mk0 w w' := by
  have M0 := (Mk.alloc w (Obj.cells #[Value.slice a0 n0 c0, Value.slice a1 n1 c1] 31)).new (Obj.cells #[Value.slice a n c] 53)
  have k0 : ((w.alloc (Obj.cells #[Value.slice a0 n0 c0, Value.slice a1 n1 c1] 31)).alloc (Obj.cells #[Value.slice a n c] 53)).cell? ⟨w.heap.size, 0, none⟩ = some (.slice a0 n0 c0) := by simp [go_sem]
  have k1 : ((w.alloc (Obj.cells #[Value.slice a0 n0 c0, Value.slice a1 n1 c1] 31)).alloc (Obj.cells #[Value.slice a n c] 53)).cell? ⟨w.heap.size, 1, none⟩ = some (.slice a1 n1 c1) := by simp [go_sem]
  have u0 : ((w.alloc (Obj.cells #[Value.slice a0 n0 c0, Value.slice a1 n1 c1] 31)).alloc (Obj.cells #[Value.slice a n c] 53)).cell? ⟨w.heap.size + 1, 0, none⟩ = some (.slice a n c) := by simp [go_sem]
  obtain ⟨Ys, hYs⟩ : ∃ Ys, Hid (Ys = pathSt ps n) := ⟨_, Lib.hid rfl⟩
  have HYF : Hid (∀ k, TStep.fits (Ys.getD k default)) := Lib.hid (fun k => by rw [hYs.out]; exact stp_f0 (pathSt_fits hf n) k)
  have HYL : Hid (Ys.length ≤ 1048576) := Lib.hid (by rw [hYs.out]; exact Nat.le_trans (pathSt_le ps n) hn)
  obtain ⟨F_, hF⟩ : ∃ F_, Hid (F_ = pthF zs n0 Ys) := ⟨_, Lib.hid rfl⟩
  have HFA : Hid (∀ k, (F_ k).size ≤ 87) := Lib.hid (fun k => by rw [hF.out]; exact stT_size h.1 hz (HYF.out k))
  have HFE : Hid (∀ k : Nat, F_ k = stT zs n0 (Ys.getD k default)) := Lib.hid (fun k => by rw [hF.out]; rfl)
  unfold pthT
  rw [← hYs.out, ← hF.out]
  have HZ := Lib.hid hz
  clear hz hf
  go_enter Tryd.func18, Tryd.ntmps18
  go_wp2_with fail
  generalize ((w.alloc (Obj.cells #[Value.slice a0 n0 c0, Value.slice a1 n1 c1] 31)).alloc (Obj.cells #[Value.slice a n c] 53)) = WW at *
  refine (specPathSteps a n c B' ps _ (hp.mk M0 hB' (.inr (Nat.le_refl _))) (Nat.le_trans hB' M0.size) hn).mono ?_
  rw [← hYs.out]
  rintro e w2 ⟨A, N, cc, rfl, hcc, oo, m2⟩
  obtain rfl : Ys.length = N := oo.1
  have HFS : Hid (∀ k, k < Ys.length → (F_ k).size ≤ 87) := Lib.hid (fun k _ => HFA.out k)
  have hNl := HYL.out
  replace k0 := m2.cellAt k0
  replace k1 := m2.cellAt k1
  replace M0 := M0.trans m2
  clear m2 u0
  go_wp2_with fail
  go_loopw [5, 7] (fun t i wr => ∃ k : Nat, k ≤ Ys.length ∧ i = .int .i64 k ∧ t = .string (joF F_ k) ∧ Mk0 w2 wr) (fun _ i _ => Ys.length - (intOf i).toNat)
  case atStart => exact ⟨0, Nat.zero_le _, rfl, rfl, Mk.refl _ _ _⟩
  case round =>
    obtain ⟨k, hk, rfl, rfl, hM⟩ := hrel
    replace k0 := hM.cellAt k0
    replace k1 := hM.cellAt k1
    have hMW := M0.trans hM
    by_cases hlt : k < Ys.length
    · have i1 : (0 : Int) ≤ (k : Int) := by omega
      have i2 : (k : Int) < (Ys.length : Int) := by omega
      have hFk := HFS.out k hlt
      obtain ⟨b, off, y, rfl, hb, hx, d0, d1, d2⟩ := HasStep.at _ _ _ _ _ _ (oo.has.mk hM (Nat.le_refl _) (.inr (Nat.le_refl _))) hlt
      have hbr := World.block_lt_of_cell? _ _ d0
      have hbk := World.block_lt_of_cell? _ _ k0
      simp only at hbr hbk
      have hyf : TStep.fits y := by rw [hx.out]; exact HYF.out k
      have fn := i64_of hyf.1
      have fi := i64_of hyf.2.1
      have fe := i64_of hyf.2.2
      obtain ⟨T, hT⟩ : ∃ T, Hid (T = joF F_ k) := ⟨_, Lib.hid rfl⟩
      have hTs : T.size ≤ 900000000 := by
        rw [hT.out]
        have h1 := joF_size HFS.out k hk
        have h2 : (87 + 1) * k ≤ (87 + 1) * 1048576 := Nat.mul_le_mul_left _ (by omega)
        omega
      rw [← hT.out]
      by_cases hk0 : k = 0
      · have HN := Lib.hid (show joF F_ (k + 1) = T ++ F_ k by rw [joF, if_pos hk0, ← hT.out])
        have i3 : (k : Int) ≤ 0 := by omega
        have ad0 := add_ok T (F_ k) hTs hFk (by decide)
        clear hk0
        have ae0 := add_ok (T) (tI y.ing) (p := 900000000) (q := 21) (hTs) (tI_size fi.1 fi.2) (by decide)
        have ae1 := add_ok (T ++ tI y.ing) (⟨#[62]⟩) (p := 900000021) (q := 1) (size_app (p := 900000000) (q := 21) (hTs) (tI_size fi.1 fi.2)) (one1 62) (by decide)
        have ae2 := add_ok (T ++ tI y.ing ++ ⟨#[62]⟩) (asT zs n0 y.nd) (p := 900000022) (q := 43) (size_app (p := 900000021) (q := 1) (size_app (p := 900000000) (q := 21) (hTs) (tI_size fi.1 fi.2)) (one1 62)) (asT_size h.1 HZ.out fn.1 fn.2) (by decide)
        have ae3 := add_ok (T ++ tI y.ing ++ ⟨#[62]⟩ ++ asT zs n0 y.nd) (⟨#[62]⟩) (p := 900000065) (q := 1) (size_app (p := 900000022) (q := 43) (size_app (p := 900000021) (q := 1) (size_app (p := 900000000) (q := 21) (hTs) (tI_size fi.1 fi.2)) (one1 62)) (asT_size h.1 HZ.out fn.1 fn.2)) (one1 62) (by decide)
        have ae4 := add_ok (T ++ tI y.ing ++ ⟨#[62]⟩ ++ asT zs n0 y.nd ++ ⟨#[62]⟩) (tI y.eg) (p := 900000066) (q := 21) (size_app (p := 900000065) (q := 1) (size_app (p := 900000022) (q := 43) (size_app (p := 900000021) (q := 1) (size_app (p := 900000000) (q := 21) (hTs) (tI_size fi.1 fi.2)) (one1 62)) (asT_size h.1 HZ.out fn.1 fn.2)) (one1 62)) (tI_size fe.1 fe.2) (by decide)
        go_wp2_with fail
        refine wp_region_wkt (fun w' => Mk0 wr w' ∧ w'.cell? ⟨w.heap.size, 0, none⟩ = some (.slice a0 n0 c0) ∧ w'.cell? ⟨w.heap.size, 1, none⟩ = some (.slice a1 n1 c1) ∧ w'.cell? ⟨b, off + k * 3, none⟩ = some (.int .i64 y.nd) ∧ w'.cell? ⟨b, off + k * 3 + 1, none⟩ = some (.int .i64 y.ing) ∧ w'.cell? ⟨b, off + k * 3 + 2, none⟩ = some (.int .i64 y.eg)) 25 (by kernel_rfl) (by kernel_rfl) (by kernel_rfl) (by decide) (⟨Mk.drew1 _, k0, k1, d0, d1, d2⟩) ?_
        change WkT _ _ _ _ _ 25 0 _
        first | (refine WkT.skip (m := 24) (k := 0) rfl (by rfl) ?_) | (refine WkT.pure (m := 24) (k := 0) (v := _) rfl (by rfl) (fun wv => by go_simp; try with_reducible rfl) ?_) | (refine WkT.step (m := 24) (k := 0) (v := _) rfl (by rfl) (by kernel_rfl) (fun wv hS => by obtain ⟨s0, s1, s2, s3, s4, s5⟩ := hS; go_simp; try with_reducible rfl) ?_)
        try simp only [Act.put, List.getElem_toArray, List.getElem_cons_zero, List.setIfInBounds_toArray, List.set_cons_zero, List.set_cons_succ]
        first | (refine WkT.skip (m := 23) (k := 1) rfl (by rfl) ?_) | (refine WkT.pure (m := 23) (k := 1) (v := _) rfl (by rfl) (fun wv => by go_simp; try with_reducible rfl) ?_) | (refine WkT.step (m := 23) (k := 1) (v := _) rfl (by rfl) (by kernel_rfl) (fun wv hS => by obtain ⟨s0, s1, s2, s3, s4, s5⟩ := hS; go_simp; try with_reducible rfl) ?_)
        try simp only [Act.put, List.getElem_toArray, List.getElem_cons_succ, List.getElem_cons_zero, List.setIfInBounds_toArray, List.set_cons_zero, List.set_cons_succ]
        first | (refine WkT.skip (m := 22) (k := 2) rfl (by rfl) ?_) | (refine WkT.pure (m := 22) (k := 2) (v := _) rfl (by rfl) (fun wv => by go_simp; try with_reducible rfl) ?_) | (refine WkT.step (m := 22) (k := 2) (v := _) rfl (by rfl) (by kernel_rfl) (fun wv hS => by obtain ⟨s0, s1, s2, s3, s4, s5⟩ := hS; go_simp; try with_reducible rfl) ?_)
        try simp only [Act.put, List.getElem_toArray, List.getElem_cons_succ, List.getElem_cons_zero, List.setIfInBounds_toArray, List.set_cons_zero, List.set_cons_succ]
        first | (refine WkT.skip (m := 21) (k := 3) rfl (by rfl) ?_) | (refine WkT.pure (m := 21) (k := 3) (v := _) rfl (by rfl) (fun wv => by go_simp; try with_reducible rfl) ?_) | (refine WkT.step (m := 21) (k := 3) (v := _) rfl (by rfl) (by kernel_rfl) (fun wv hS => by obtain ⟨s0, s1, s2, s3, s4, s5⟩ := hS; go_simp; try with_reducible rfl) ?_)
        try simp only [Act.put, List.getElem_toArray, List.getElem_cons_succ, List.getElem_cons_zero, List.setIfInBounds_toArray, List.set_cons_zero, List.set_cons_succ]
        first | (refine WkT.skip (m := 20) (k := 4) rfl (by rfl) ?_) | (refine WkT.pure (m := 20) (k := 4) (v := _) rfl (by rfl) (fun wv => by go_simp; try with_reducible rfl) ?_) | (refine WkT.step (m := 20) (k := 4) (v := _) rfl (by rfl) (by kernel_rfl) (fun wv hS => by obtain ⟨s0, s1, s2, s3, s4, s5⟩ := hS; go_simp; try with_reducible rfl) ?_)
        try simp only [Act.put, List.getElem_toArray, List.getElem_cons_succ, List.getElem_cons_zero, List.setIfInBounds_toArray, List.set_cons_zero, List.set_cons_succ]
        first | (refine WkT.skip (m := 19) (k := 5) rfl (by rfl) ?_) | (refine WkT.pure (m := 19) (k := 5) (v := _) rfl (by rfl) (fun wv => by go_simp; try with_reducible rfl) ?_) | (refine WkT.step (m := 19) (k := 5) (v := _) rfl (by rfl) (by kernel_rfl) (fun wv hS => by obtain ⟨s0, s1, s2, s3, s4, s5⟩ := hS; go_simp; try with_reducible rfl) ?_)
        try simp only [Act.put, List.getElem_toArray, List.getElem_cons_succ, List.getElem_cons_zero, List.setIfInBounds_toArray, List.set_cons_zero, List.set_cons_succ]
        refine WkT.call (m := 18) (k := 6) (v := .string (tI y.ing)) _ _ rfl (by rfl) (by kernel_rfl) (fun wv hS => by obtain ⟨s0, s1, s2, s3, s4, s5⟩ := hS; go_simp; first | done | exact ⟨rfl, rfl⟩ | with_reducible rfl) (fun wv hS => ?_) ?_; · obtain ⟨s0, s1, s2, s3, s4, s5⟩ := hS; refine (specFI y.ing fi.1 fi.2 wv).mono ?_; rintro e w' ⟨he, mm⟩; exact ⟨he, s0.trans mm, mm.cellAt s1, mm.cellAt s2, mm.cellAt s3, mm.cellAt s4, mm.cellAt s5⟩
        try simp only [Act.put, List.getElem_toArray, List.getElem_cons_succ, List.getElem_cons_zero, List.setIfInBounds_toArray, List.set_cons_zero, List.set_cons_succ]
        first | (refine WkT.skip (m := 17) (k := 7) rfl (by rfl) ?_) | (refine WkT.pure (m := 17) (k := 7) (v := _) rfl (by rfl) (fun wv => by go_simp; try with_reducible rfl) ?_) | (refine WkT.step (m := 17) (k := 7) (v := _) rfl (by rfl) (by kernel_rfl) (fun wv hS => by obtain ⟨s0, s1, s2, s3, s4, s5⟩ := hS; go_simp; try with_reducible rfl) ?_)
        try simp only [Act.put, List.getElem_toArray, List.getElem_cons_succ, List.getElem_cons_zero, List.setIfInBounds_toArray, List.set_cons_zero, List.set_cons_succ]
        first | (refine WkT.skip (m := 16) (k := 8) rfl (by rfl) ?_) | (refine WkT.pure (m := 16) (k := 8) (v := _) rfl (by rfl) (fun wv => by go_simp; try with_reducible rfl) ?_) | (refine WkT.step (m := 16) (k := 8) (v := _) rfl (by rfl) (by kernel_rfl) (fun wv hS => by obtain ⟨s0, s1, s2, s3, s4, s5⟩ := hS; go_simp; try with_reducible rfl) ?_)
        try simp only [Act.put, List.getElem_toArray, List.getElem_cons_succ, List.getElem_cons_zero, List.setIfInBounds_toArray, List.set_cons_zero, List.set_cons_succ]
        first | (refine WkT.skip (m := 15) (k := 9) rfl (by rfl) ?_) | (refine WkT.pure (m := 15) (k := 9) (v := _) rfl (by rfl) (fun wv => by go_simp; try with_reducible rfl) ?_) | (refine WkT.step (m := 15) (k := 9) (v := _) rfl (by rfl) (by kernel_rfl) (fun wv hS => by obtain ⟨s0, s1, s2, s3, s4, s5⟩ := hS; go_simp; try with_reducible rfl) ?_)
        try simp only [Act.put, List.getElem_toArray, List.getElem_cons_succ, List.getElem_cons_zero, List.setIfInBounds_toArray, List.set_cons_zero, List.set_cons_succ]
        first | (refine WkT.skip (m := 14) (k := 10) rfl (by rfl) ?_) | (refine WkT.pure (m := 14) (k := 10) (v := _) rfl (by rfl) (fun wv => by go_simp; try with_reducible rfl) ?_) | (refine WkT.step (m := 14) (k := 10) (v := _) rfl (by rfl) (by kernel_rfl) (fun wv hS => by obtain ⟨s0, s1, s2, s3, s4, s5⟩ := hS; go_simp; try with_reducible rfl) ?_)
        try simp only [Act.put, List.getElem_toArray, List.getElem_cons_succ, List.getElem_cons_zero, List.setIfInBounds_toArray, List.set_cons_zero, List.set_cons_succ]
        first | (refine WkT.skip (m := 13) (k := 11) rfl (by rfl) ?_) | (refine WkT.pure (m := 13) (k := 11) (v := _) rfl (by rfl) (fun wv => by go_simp; try with_reducible rfl) ?_) | (refine WkT.step (m := 13) (k := 11) (v := _) rfl (by rfl) (by kernel_rfl) (fun wv hS => by obtain ⟨s0, s1, s2, s3, s4, s5⟩ := hS; go_simp; try with_reducible rfl) ?_)
        try simp only [Act.put, List.getElem_toArray, List.getElem_cons_succ, List.getElem_cons_zero, List.setIfInBounds_toArray, List.set_cons_zero, List.set_cons_succ]
        first | (refine WkT.skip (m := 12) (k := 12) rfl (by rfl) ?_) | (refine WkT.pure (m := 12) (k := 12) (v := _) rfl (by rfl) (fun wv => by go_simp; try with_reducible rfl) ?_) | (refine WkT.step (m := 12) (k := 12) (v := _) rfl (by rfl) (by kernel_rfl) (fun wv hS => by obtain ⟨s0, s1, s2, s3, s4, s5⟩ := hS; go_simp; try with_reducible rfl) ?_)
        try simp only [Act.put, List.getElem_toArray, List.getElem_cons_succ, List.getElem_cons_zero, List.setIfInBounds_toArray, List.set_cons_zero, List.set_cons_succ]
        first | (refine WkT.skip (m := 11) (k := 13) rfl (by rfl) ?_) | (refine WkT.pure (m := 11) (k := 13) (v := _) rfl (by rfl) (fun wv => by go_simp; try with_reducible rfl) ?_) | (refine WkT.step (m := 11) (k := 13) (v := _) rfl (by rfl) (by kernel_rfl) (fun wv hS => by obtain ⟨s0, s1, s2, s3, s4, s5⟩ := hS; go_simp; try with_reducible rfl) ?_)
        try simp only [Act.put, List.getElem_toArray, List.getElem_cons_succ, List.getElem_cons_zero, List.setIfInBounds_toArray, List.set_cons_zero, List.set_cons_succ]
        first | (refine WkT.skip (m := 10) (k := 14) rfl (by rfl) ?_) | (refine WkT.pure (m := 10) (k := 14) (v := _) rfl (by rfl) (fun wv => by go_simp; try with_reducible rfl) ?_) | (refine WkT.step (m := 10) (k := 14) (v := _) rfl (by rfl) (by kernel_rfl) (fun wv hS => by obtain ⟨s0, s1, s2, s3, s4, s5⟩ := hS; go_simp; try with_reducible rfl) ?_)
        try simp only [Act.put, List.getElem_toArray, List.getElem_cons_succ, List.getElem_cons_zero, List.setIfInBounds_toArray, List.set_cons_zero, List.set_cons_succ]
        refine WkT.call (m := 9) (k := 15) (v := .string (asT zs n0 y.nd)) _ _ rfl (by rfl) (by kernel_rfl) (fun wv hS => by obtain ⟨s0, s1, s2, s3, s4, s5⟩ := hS; go_simp; first | done | exact ⟨rfl, rfl⟩ | with_reducible rfl) (fun wv hS => ?_) ?_; · obtain ⟨s0, s1, s2, s3, s4, s5⟩ := hS; refine (specFAS a0 a1 n0 c0 n1 c1 B zs y.nd wv (h.mk (hMW.trans s0) hB (.inr (Nat.le_refl _))) (Nat.le_trans hB (hMW.trans s0).size) hn0 HZ.out fn.1 fn.2).mono ?_; rintro e w' ⟨he, mm⟩; exact ⟨he, s0.trans mm, mm.cellAt s1, mm.cellAt s2, mm.cellAt s3, mm.cellAt s4, mm.cellAt s5⟩
        try simp only [Act.put, List.getElem_toArray, List.getElem_cons_succ, List.getElem_cons_zero, List.setIfInBounds_toArray, List.set_cons_zero, List.set_cons_succ]
        first | (refine WkT.skip (m := 8) (k := 16) rfl (by rfl) ?_) | (refine WkT.pure (m := 8) (k := 16) (v := _) rfl (by rfl) (fun wv => by go_simp; try with_reducible rfl) ?_) | (refine WkT.step (m := 8) (k := 16) (v := _) rfl (by rfl) (by kernel_rfl) (fun wv hS => by obtain ⟨s0, s1, s2, s3, s4, s5⟩ := hS; go_simp; try with_reducible rfl) ?_)
        try simp only [Act.put, List.getElem_toArray, List.getElem_cons_succ, List.getElem_cons_zero, List.setIfInBounds_toArray, List.set_cons_zero, List.set_cons_succ]
        first | (refine WkT.skip (m := 7) (k := 17) rfl (by rfl) ?_) | (refine WkT.pure (m := 7) (k := 17) (v := _) rfl (by rfl) (fun wv => by go_simp; try with_reducible rfl) ?_) | (refine WkT.step (m := 7) (k := 17) (v := _) rfl (by rfl) (by kernel_rfl) (fun wv hS => by obtain ⟨s0, s1, s2, s3, s4, s5⟩ := hS; go_simp; try with_reducible rfl) ?_)
        try simp only [Act.put, List.getElem_toArray, List.getElem_cons_succ, List.getElem_cons_zero, List.setIfInBounds_toArray, List.set_cons_zero, List.set_cons_succ]
        first | (refine WkT.skip (m := 6) (k := 18) rfl (by rfl) ?_) | (refine WkT.pure (m := 6) (k := 18) (v := _) rfl (by rfl) (fun wv => by go_simp; try with_reducible rfl) ?_) | (refine WkT.step (m := 6) (k := 18) (v := _) rfl (by rfl) (by kernel_rfl) (fun wv hS => by obtain ⟨s0, s1, s2, s3, s4, s5⟩ := hS; go_simp; try with_reducible rfl) ?_)
        try simp only [Act.put, List.getElem_toArray, List.getElem_cons_succ, List.getElem_cons_zero, List.setIfInBounds_toArray, List.set_cons_zero, List.set_cons_succ]
        first | (refine WkT.skip (m := 5) (k := 19) rfl (by rfl) ?_) | (refine WkT.pure (m := 5) (k := 19) (v := _) rfl (by rfl) (fun wv => by go_simp; try with_reducible rfl) ?_) | (refine WkT.step (m := 5) (k := 19) (v := _) rfl (by rfl) (by kernel_rfl) (fun wv hS => by obtain ⟨s0, s1, s2, s3, s4, s5⟩ := hS; go_simp; try with_reducible rfl) ?_)
        try simp only [Act.put, List.getElem_toArray, List.getElem_cons_succ, List.getElem_cons_zero, List.setIfInBounds_toArray, List.set_cons_zero, List.set_cons_succ]
        first | (refine WkT.skip (m := 4) (k := 20) rfl (by rfl) ?_) | (refine WkT.pure (m := 4) (k := 20) (v := _) rfl (by rfl) (fun wv => by go_simp; try with_reducible rfl) ?_) | (refine WkT.step (m := 4) (k := 20) (v := _) rfl (by rfl) (by kernel_rfl) (fun wv hS => by obtain ⟨s0, s1, s2, s3, s4, s5⟩ := hS; go_simp; try with_reducible rfl) ?_)
        try simp only [Act.put, List.getElem_toArray, List.getElem_cons_succ, List.getElem_cons_zero, List.setIfInBounds_toArray, List.set_cons_zero, List.set_cons_succ]
        first | (refine WkT.skip (m := 3) (k := 21) rfl (by rfl) ?_) | (refine WkT.pure (m := 3) (k := 21) (v := _) rfl (by rfl) (fun wv => by go_simp; try with_reducible rfl) ?_) | (refine WkT.step (m := 3) (k := 21) (v := _) rfl (by rfl) (by kernel_rfl) (fun wv hS => by obtain ⟨s0, s1, s2, s3, s4, s5⟩ := hS; go_simp; try with_reducible rfl) ?_)
        try simp only [Act.put, List.getElem_toArray, List.getElem_cons_succ, List.getElem_cons_zero, List.setIfInBounds_toArray, List.set_cons_zero, List.set_cons_succ]
        first | (refine WkT.skip (m := 2) (k := 22) rfl (by rfl) ?_) | (refine WkT.pure (m := 2) (k := 22) (v := _) rfl (by rfl) (fun wv => by go_simp; try with_reducible rfl) ?_) | (refine WkT.step (m := 2) (k := 22) (v := _) rfl (by rfl) (by kernel_rfl) (fun wv hS => by obtain ⟨s0, s1, s2, s3, s4, s5⟩ := hS; go_simp; try with_reducible rfl) ?_)
        try simp only [Act.put, List.getElem_toArray, List.getElem_cons_succ, List.getElem_cons_zero, List.setIfInBounds_toArray, List.set_cons_zero, List.set_cons_succ]
        refine WkT.call (m := 1) (k := 23) (v := .string (tI y.eg)) _ _ rfl (by rfl) (by kernel_rfl) (fun wv hS => by obtain ⟨s0, s1, s2, s3, s4, s5⟩ := hS; go_simp; first | done | exact ⟨rfl, rfl⟩ | with_reducible rfl) (fun wv hS => ?_) ?_; · obtain ⟨s0, s1, s2, s3, s4, s5⟩ := hS; refine (specFI y.eg fe.1 fe.2 wv).mono ?_; rintro e w' ⟨he, mm⟩; exact ⟨he, s0.trans mm, mm.cellAt s1, mm.cellAt s2, mm.cellAt s3, mm.cellAt s4, mm.cellAt s5⟩
        try simp only [Act.put, List.getElem_toArray, List.getElem_cons_succ, List.getElem_cons_zero, List.setIfInBounds_toArray, List.set_cons_zero, List.set_cons_succ]
        first | (refine WkT.skip (m := 0) (k := 24) rfl (by rfl) ?_) | (refine WkT.pure (m := 0) (k := 24) (v := _) rfl (by rfl) (fun wv => by go_simp; try with_reducible rfl) ?_) | (refine WkT.step (m := 0) (k := 24) (v := _) rfl (by rfl) (by kernel_rfl) (fun wv hS => by obtain ⟨s0, s1, s2, s3, s4, s5⟩ := hS; go_simp; try with_reducible rfl) ?_)
        try simp only [Act.put, List.getElem_toArray, List.getElem_cons_succ, List.getElem_cons_zero, List.setIfInBounds_toArray, List.set_cons_zero, List.set_cons_succ]
        refine WkT.done fun wE hE => ?_
        clear k0 k1 d0 d1 d2
        obtain ⟨mE, k0, k1, d0, d1, d2⟩ := hE
        simp only [List.drop_succ_cons, List.drop_zero]
        go_wp2_with fail
        simp only [noPan]
        go_wp2_with fail
        go_roundw
        case rel => exact ⟨k + 1, by omega, by go_num, by rw [HN.out, HFE.out k, ← hx.out]; unfold stT; simp only [ByteArray.append_assoc], hM.trans mE⟩
        case measure => simp [intOf]; omega
      · have HN := Lib.hid (show joF F_ (k + 1) = T ++ ⟨#[32]⟩ ++ F_ k by rw [joF, if_neg hk0, ← hT.out])
        have i3 : (0 : Int) < (k : Int) := by omega
        have ad0 := add_ok T ⟨#[32]⟩ hTs (one1 32) (by decide)
        have ad1 := add_ok (T ++ ⟨#[32]⟩) (F_ k) (size_app hTs (one1 32)) hFk (by decide)
        clear hk0
        have ae0 := add_ok (T) (⟨#[32]⟩) (p := 900000000) (q := 1) (hTs) (one1 32) (by decide)
        have ae1 := add_ok (T ++ ⟨#[32]⟩) (tI y.ing) (p := 900000001) (q := 21) (size_app (p := 900000000) (q := 1) (hTs) (one1 32)) (tI_size fi.1 fi.2) (by decide)
        have ae2 := add_ok (T ++ ⟨#[32]⟩ ++ tI y.ing) (⟨#[62]⟩) (p := 900000022) (q := 1) (size_app (p := 900000001) (q := 21) (size_app (p := 900000000) (q := 1) (hTs) (one1 32)) (tI_size fi.1 fi.2)) (one1 62) (by decide)
        have ae3 := add_ok (T ++ ⟨#[32]⟩ ++ tI y.ing ++ ⟨#[62]⟩) (asT zs n0 y.nd) (p := 900000023) (q := 43) (size_app (p := 900000022) (q := 1) (size_app (p := 900000001) (q := 21) (size_app (p := 900000000) (q := 1) (hTs) (one1 32)) (tI_size fi.1 fi.2)) (one1 62)) (asT_size h.1 HZ.out fn.1 fn.2) (by decide)
        have ae4 := add_ok (T ++ ⟨#[32]⟩ ++ tI y.ing ++ ⟨#[62]⟩ ++ asT zs n0 y.nd) (⟨#[62]⟩) (p := 900000066) (q := 1) (size_app (p := 900000023) (q := 43) (size_app (p := 900000022) (q := 1) (size_app (p := 900000001) (q := 21) (size_app (p := 900000000) (q := 1) (hTs) (one1 32)) (tI_size fi.1 fi.2)) (one1 62)) (asT_size h.1 HZ.out fn.1 fn.2)) (one1 62) (by decide)
        have ae5 := add_ok (T ++ ⟨#[32]⟩ ++ tI y.ing ++ ⟨#[62]⟩ ++ asT zs n0 y.nd ++ ⟨#[62]⟩) (tI y.eg) (p := 900000067) (q := 21) (size_app (p := 900000066) (q := 1) (size_app (p := 900000023) (q := 43) (size_app (p := 900000022) (q := 1) (size_app (p := 900000001) (q := 21) (size_app (p := 900000000) (q := 1) (hTs) (one1 32)) (tI_size fi.1 fi.2)) (one1 62)) (asT_size h.1 HZ.out fn.1 fn.2)) (one1 62)) (tI_size fe.1 fe.2) (by decide)
        go_wp2_with fail
        refine wp_region_wkt (fun w' => Mk0 wr w' ∧ w'.cell? ⟨w.heap.size, 0, none⟩ = some (.slice a0 n0 c0) ∧ w'.cell? ⟨w.heap.size, 1, none⟩ = some (.slice a1 n1 c1) ∧ w'.cell? ⟨b, off + k * 3, none⟩ = some (.int .i64 y.nd) ∧ w'.cell? ⟨b, off + k * 3 + 1, none⟩ = some (.int .i64 y.ing) ∧ w'.cell? ⟨b, off + k * 3 + 2, none⟩ = some (.int .i64 y.eg)) 25 (by kernel_rfl) (by kernel_rfl) (by kernel_rfl) (by decide) (⟨Mk.drew1 _, k0, k1, d0, d1, d2⟩) ?_
        change WkT _ _ _ _ _ 25 0 _
        first | (refine WkT.skip (m := 24) (k := 0) rfl (by rfl) ?_) | (refine WkT.pure (m := 24) (k := 0) (v := _) rfl (by rfl) (fun wv => by go_simp; try with_reducible rfl) ?_) | (refine WkT.step (m := 24) (k := 0) (v := _) rfl (by rfl) (by kernel_rfl) (fun wv hS => by obtain ⟨s0, s1, s2, s3, s4, s5⟩ := hS; go_simp; try with_reducible rfl) ?_)
        try simp only [Act.put, List.getElem_toArray, List.getElem_cons_zero, List.setIfInBounds_toArray, List.set_cons_zero, List.set_cons_succ]
        first | (refine WkT.skip (m := 23) (k := 1) rfl (by rfl) ?_) | (refine WkT.pure (m := 23) (k := 1) (v := _) rfl (by rfl) (fun wv => by go_simp; try with_reducible rfl) ?_) | (refine WkT.step (m := 23) (k := 1) (v := _) rfl (by rfl) (by kernel_rfl) (fun wv hS => by obtain ⟨s0, s1, s2, s3, s4, s5⟩ := hS; go_simp; try with_reducible rfl) ?_)
        try simp only [Act.put, List.getElem_toArray, List.getElem_cons_succ, List.getElem_cons_zero, List.setIfInBounds_toArray, List.set_cons_zero, List.set_cons_succ]
        first | (refine WkT.skip (m := 22) (k := 2) rfl (by rfl) ?_) | (refine WkT.pure (m := 22) (k := 2) (v := _) rfl (by rfl) (fun wv => by go_simp; try with_reducible rfl) ?_) | (refine WkT.step (m := 22) (k := 2) (v := _) rfl (by rfl) (by kernel_rfl) (fun wv hS => by obtain ⟨s0, s1, s2, s3, s4, s5⟩ := hS; go_simp; try with_reducible rfl) ?_)
        try simp only [Act.put, List.getElem_toArray, List.getElem_cons_succ, List.getElem_cons_zero, List.setIfInBounds_toArray, List.set_cons_zero, List.set_cons_succ]
        first | (refine WkT.skip (m := 21) (k := 3) rfl (by rfl) ?_) | (refine WkT.pure (m := 21) (k := 3) (v := _) rfl (by rfl) (fun wv => by go_simp; try with_reducible rfl) ?_) | (refine WkT.step (m := 21) (k := 3) (v := _) rfl (by rfl) (by kernel_rfl) (fun wv hS => by obtain ⟨s0, s1, s2, s3, s4, s5⟩ := hS; go_simp; try with_reducible rfl) ?_)
        try simp only [Act.put, List.getElem_toArray, List.getElem_cons_succ, List.getElem_cons_zero, List.setIfInBounds_toArray, List.set_cons_zero, List.set_cons_succ]
        first | (refine WkT.skip (m := 20) (k := 4) rfl (by rfl) ?_) | (refine WkT.pure (m := 20) (k := 4) (v := _) rfl (by rfl) (fun wv => by go_simp; try with_reducible rfl) ?_) | (refine WkT.step (m := 20) (k := 4) (v := _) rfl (by rfl) (by kernel_rfl) (fun wv hS => by obtain ⟨s0, s1, s2, s3, s4, s5⟩ := hS; go_simp; try with_reducible rfl) ?_)
        try simp only [Act.put, List.getElem_toArray, List.getElem_cons_succ, List.getElem_cons_zero, List.setIfInBounds_toArray, List.set_cons_zero, List.set_cons_succ]
        first | (refine WkT.skip (m := 19) (k := 5) rfl (by rfl) ?_) | (refine WkT.pure (m := 19) (k := 5) (v := _) rfl (by rfl) (fun wv => by go_simp; try with_reducible rfl) ?_) | (refine WkT.step (m := 19) (k := 5) (v := _) rfl (by rfl) (by kernel_rfl) (fun wv hS => by obtain ⟨s0, s1, s2, s3, s4, s5⟩ := hS; go_simp; try with_reducible rfl) ?_)
        try simp only [Act.put, List.getElem_toArray, List.getElem_cons_succ, List.getElem_cons_zero, List.setIfInBounds_toArray, List.set_cons_zero, List.set_cons_succ]
        refine WkT.call (m := 18) (k := 6) (v := .string (tI y.ing)) _ _ rfl (by rfl) (by kernel_rfl) (fun wv hS => by obtain ⟨s0, s1, s2, s3, s4, s5⟩ := hS; go_simp; first | done | exact ⟨rfl, rfl⟩ | with_reducible rfl) (fun wv hS => ?_) ?_; · obtain ⟨s0, s1, s2, s3, s4, s5⟩ := hS; refine (specFI y.ing fi.1 fi.2 wv).mono ?_; rintro e w' ⟨he, mm⟩; exact ⟨he, s0.trans mm, mm.cellAt s1, mm.cellAt s2, mm.cellAt s3, mm.cellAt s4, mm.cellAt s5⟩
        try simp only [Act.put, List.getElem_toArray, List.getElem_cons_succ, List.getElem_cons_zero, List.setIfInBounds_toArray, List.set_cons_zero, List.set_cons_succ]
        first | (refine WkT.skip (m := 17) (k := 7) rfl (by rfl) ?_) | (refine WkT.pure (m := 17) (k := 7) (v := _) rfl (by rfl) (fun wv => by go_simp; try with_reducible rfl) ?_) | (refine WkT.step (m := 17) (k := 7) (v := _) rfl (by rfl) (by kernel_rfl) (fun wv hS => by obtain ⟨s0, s1, s2, s3, s4, s5⟩ := hS; go_simp; try with_reducible rfl) ?_)
        try simp only [Act.put, List.getElem_toArray, List.getElem_cons_succ, List.getElem_cons_zero, List.setIfInBounds_toArray, List.set_cons_zero, List.set_cons_succ]
        first | (refine WkT.skip (m := 16) (k := 8) rfl (by rfl) ?_) | (refine WkT.pure (m := 16) (k := 8) (v := _) rfl (by rfl) (fun wv => by go_simp; try with_reducible rfl) ?_) | (refine WkT.step (m := 16) (k := 8) (v := _) rfl (by rfl) (by kernel_rfl) (fun wv hS => by obtain ⟨s0, s1, s2, s3, s4, s5⟩ := hS; go_simp; try with_reducible rfl) ?_)
        try simp only [Act.put, List.getElem_toArray, List.getElem_cons_succ, List.getElem_cons_zero, List.setIfInBounds_toArray, List.set_cons_zero, List.set_cons_succ]
        first | (refine WkT.skip (m := 15) (k := 9) rfl (by rfl) ?_) | (refine WkT.pure (m := 15) (k := 9) (v := _) rfl (by rfl) (fun wv => by go_simp; try with_reducible rfl) ?_) | (refine WkT.step (m := 15) (k := 9) (v := _) rfl (by rfl) (by kernel_rfl) (fun wv hS => by obtain ⟨s0, s1, s2, s3, s4, s5⟩ := hS; go_simp; try with_reducible rfl) ?_)
        try simp only [Act.put, List.getElem_toArray, List.getElem_cons_succ, List.getElem_cons_zero, List.setIfInBounds_toArray, List.set_cons_zero, List.set_cons_succ]
        first | (refine WkT.skip (m := 14) (k := 10) rfl (by rfl) ?_) | (refine WkT.pure (m := 14) (k := 10) (v := _) rfl (by rfl) (fun wv => by go_simp; try with_reducible rfl) ?_) | (refine WkT.step (m := 14) (k := 10) (v := _) rfl (by rfl) (by kernel_rfl) (fun wv hS => by obtain ⟨s0, s1, s2, s3, s4, s5⟩ := hS; go_simp; try with_reducible rfl) ?_)
        try simp only [Act.put, List.getElem_toArray, List.getElem_cons_succ, List.getElem_cons_zero, List.setIfInBounds_toArray, List.set_cons_zero, List.set_cons_succ]
        first | (refine WkT.skip (m := 13) (k := 11) rfl (by rfl) ?_) | (refine WkT.pure (m := 13) (k := 11) (v := _) rfl (by rfl) (fun wv => by go_simp; try with_reducible rfl) ?_) | (refine WkT.step (m := 13) (k := 11) (v := _) rfl (by rfl) (by kernel_rfl) (fun wv hS => by obtain ⟨s0, s1, s2, s3, s4, s5⟩ := hS; go_simp; try with_reducible rfl) ?_)
        try simp only [Act.put, List.getElem_toArray, List.getElem_cons_succ, List.getElem_cons_zero, List.setIfInBounds_toArray, List.set_cons_zero, List.set_cons_succ]
        first | (refine WkT.skip (m := 12) (k := 12) rfl (by rfl) ?_) | (refine WkT.pure (m := 12) (k := 12) (v := _) rfl (by rfl) (fun wv => by go_simp; try with_reducible rfl) ?_) | (refine WkT.step (m := 12) (k := 12) (v := _) rfl (by rfl) (by kernel_rfl) (fun wv hS => by obtain ⟨s0, s1, s2, s3, s4, s5⟩ := hS; go_simp; try with_reducible rfl) ?_)
        try simp only [Act.put, List.getElem_toArray, List.getElem_cons_succ, List.getElem_cons_zero, List.setIfInBounds_toArray, List.set_cons_zero, List.set_cons_succ]
        first | (refine WkT.skip (m := 11) (k := 13) rfl (by rfl) ?_) | (refine WkT.pure (m := 11) (k := 13) (v := _) rfl (by rfl) (fun wv => by go_simp; try with_reducible rfl) ?_) | (refine WkT.step (m := 11) (k := 13) (v := _) rfl (by rfl) (by kernel_rfl) (fun wv hS => by obtain ⟨s0, s1, s2, s3, s4, s5⟩ := hS; go_simp; try with_reducible rfl) ?_)
        try simp only [Act.put, List.getElem_toArray, List.getElem_cons_succ, List.getElem_cons_zero, List.setIfInBounds_toArray, List.set_cons_zero, List.set_cons_succ]
        first | (refine WkT.skip (m := 10) (k := 14) rfl (by rfl) ?_) | (refine WkT.pure (m := 10) (k := 14) (v := _) rfl (by rfl) (fun wv => by go_simp; try with_reducible rfl) ?_) | (refine WkT.step (m := 10) (k := 14) (v := _) rfl (by rfl) (by kernel_rfl) (fun wv hS => by obtain ⟨s0, s1, s2, s3, s4, s5⟩ := hS; go_simp; try with_reducible rfl) ?_)
        try simp only [Act.put, List.getElem_toArray, List.getElem_cons_succ, List.getElem_cons_zero, List.setIfInBounds_toArray, List.set_cons_zero, List.set_cons_succ]
        refine WkT.call (m := 9) (k := 15) (v := .string (asT zs n0 y.nd)) _ _ rfl (by rfl) (by kernel_rfl) (fun wv hS => by obtain ⟨s0, s1, s2, s3, s4, s5⟩ := hS; go_simp; first | done | exact ⟨rfl, rfl⟩ | with_reducible rfl) (fun wv hS => ?_) ?_; · obtain ⟨s0, s1, s2, s3, s4, s5⟩ := hS; refine (specFAS a0 a1 n0 c0 n1 c1 B zs y.nd wv (h.mk (hMW.trans s0) hB (.inr (Nat.le_refl _))) (Nat.le_trans hB (hMW.trans s0).size) hn0 HZ.out fn.1 fn.2).mono ?_; rintro e w' ⟨he, mm⟩; exact ⟨he, s0.trans mm, mm.cellAt s1, mm.cellAt s2, mm.cellAt s3, mm.cellAt s4, mm.cellAt s5⟩
        try simp only [Act.put, List.getElem_toArray, List.getElem_cons_succ, List.getElem_cons_zero, List.setIfInBounds_toArray, List.set_cons_zero, List.set_cons_succ]
        first | (refine WkT.skip (m := 8) (k := 16) rfl (by rfl) ?_) | (refine WkT.pure (m := 8) (k := 16) (v := _) rfl (by rfl) (fun wv => by go_simp; try with_reducible rfl) ?_) | (refine WkT.step (m := 8) (k := 16) (v := _) rfl (by rfl) (by kernel_rfl) (fun wv hS => by obtain ⟨s0, s1, s2, s3, s4, s5⟩ := hS; go_simp; try with_reducible rfl) ?_)
        try simp only [Act.put, List.getElem_toArray, List.getElem_cons_succ, List.getElem_cons_zero, List.setIfInBounds_toArray, List.set_cons_zero, List.set_cons_succ]
        first | (refine WkT.skip (m := 7) (k := 17) rfl (by rfl) ?_) | (refine WkT.pure (m := 7) (k := 17) (v := _) rfl (by rfl) (fun wv => by go_simp; try with_reducible rfl) ?_) | (refine WkT.step (m := 7) (k := 17) (v := _) rfl (by rfl) (by kernel_rfl) (fun wv hS => by obtain ⟨s0, s1, s2, s3, s4, s5⟩ := hS; go_simp; try with_reducible rfl) ?_)
        try simp only [Act.put, List.getElem_toArray, List.getElem_cons_succ, List.getElem_cons_zero, List.setIfInBounds_toArray, List.set_cons_zero, List.set_cons_succ]
        first | (refine WkT.skip (m := 6) (k := 18) rfl (by rfl) ?_) | (refine WkT.pure (m := 6) (k := 18) (v := _) rfl (by rfl) (fun wv => by go_simp; try with_reducible rfl) ?_) | (refine WkT.step (m := 6) (k := 18) (v := _) rfl (by rfl) (by kernel_rfl) (fun wv hS => by obtain ⟨s0, s1, s2, s3, s4, s5⟩ := hS; go_simp; try with_reducible rfl) ?_)
        try simp only [Act.put, List.getElem_toArray, List.getElem_cons_succ, List.getElem_cons_zero, List.setIfInBounds_toArray, List.set_cons_zero, List.set_cons_succ]
        first | (refine WkT.skip (m := 5) (k := 19) rfl (by rfl) ?_) | (refine WkT.pure (m := 5) (k := 19) (v := _) rfl (by rfl) (fun wv => by go_simp; try with_reducible rfl) ?_) | (refine WkT.step (m := 5) (k := 19) (v := _) rfl (by rfl) (by kernel_rfl) (fun wv hS => by obtain ⟨s0, s1, s2, s3, s4, s5⟩ := hS; go_simp; try with_reducible rfl) ?_)
        try simp only [Act.put, List.getElem_toArray, List.getElem_cons_succ, List.getElem_cons_zero, List.setIfInBounds_toArray, List.set_cons_zero, List.set_cons_succ]
        first | (refine WkT.skip (m := 4) (k := 20) rfl (by rfl) ?_) | (refine WkT.pure (m := 4) (k := 20) (v := _) rfl (by rfl) (fun wv => by go_simp; try with_reducible rfl) ?_) | (refine WkT.step (m := 4) (k := 20) (v := _) rfl (by rfl) (by kernel_rfl) (fun wv hS => by obtain ⟨s0, s1, s2, s3, s4, s5⟩ := hS; go_simp; try with_reducible rfl) ?_)
        try simp only [Act.put, List.getElem_toArray, List.getElem_cons_succ, List.getElem_cons_zero, List.setIfInBounds_toArray, List.set_cons_zero, List.set_cons_succ]
        first | (refine WkT.skip (m := 3) (k := 21) rfl (by rfl) ?_) | (refine WkT.pure (m := 3) (k := 21) (v := _) rfl (by rfl) (fun wv => by go_simp; try with_reducible rfl) ?_) | (refine WkT.step (m := 3) (k := 21) (v := _) rfl (by rfl) (by kernel_rfl) (fun wv hS => by obtain ⟨s0, s1, s2, s3, s4, s5⟩ := hS; go_simp; try with_reducible rfl) ?_)
        try simp only [Act.put, List.getElem_toArray, List.getElem_cons_succ, List.getElem_cons_zero, List.setIfInBounds_toArray, List.set_cons_zero, List.set_cons_succ]
        first | (refine WkT.skip (m := 2) (k := 22) rfl (by rfl) ?_) | (refine WkT.pure (m := 2) (k := 22) (v := _) rfl (by rfl) (fun wv => by go_simp; try with_reducible rfl) ?_) | (refine WkT.step (m := 2) (k := 22) (v := _) rfl (by rfl) (by kernel_rfl) (fun wv hS => by obtain ⟨s0, s1, s2, s3, s4, s5⟩ := hS; go_simp; try with_reducible rfl) ?_)
        try simp only [Act.put, List.getElem_toArray, List.getElem_cons_succ, List.getElem_cons_zero, List.setIfInBounds_toArray, List.set_cons_zero, List.set_cons_succ]
        refine WkT.call (m := 1) (k := 23) (v := .string (tI y.eg)) _ _ rfl (by rfl) (by kernel_rfl) (fun wv hS => by obtain ⟨s0, s1, s2, s3, s4, s5⟩ := hS; go_simp; first | done | exact ⟨rfl, rfl⟩ | with_reducible rfl) (fun wv hS => ?_) ?_; · obtain ⟨s0, s1, s2, s3, s4, s5⟩ := hS; refine (specFI y.eg fe.1 fe.2 wv).mono ?_; rintro e w' ⟨he, mm⟩; exact ⟨he, s0.trans mm, mm.cellAt s1, mm.cellAt s2, mm.cellAt s3, mm.cellAt s4, mm.cellAt s5⟩
        try simp only [Act.put, List.getElem_toArray, List.getElem_cons_succ, List.getElem_cons_zero, List.setIfInBounds_toArray, List.set_cons_zero, List.set_cons_succ]
        first | (refine WkT.skip (m := 0) (k := 24) rfl (by rfl) ?_) | (refine WkT.pure (m := 0) (k := 24) (v := _) rfl (by rfl) (fun wv => by go_simp; try with_reducible rfl) ?_) | (refine WkT.step (m := 0) (k := 24) (v := _) rfl (by rfl) (by kernel_rfl) (fun wv hS => by obtain ⟨s0, s1, s2, s3, s4, s5⟩ := hS; go_simp; try with_reducible rfl) ?_)
        try simp only [Act.put, List.getElem_toArray, List.getElem_cons_succ, List.getElem_cons_zero, List.setIfInBounds_toArray, List.set_cons_zero, List.set_cons_succ]
        refine WkT.done fun wE hE => ?_
        clear k0 k1 d0 d1 d2
        obtain ⟨mE, k0, k1, d0, d1, d2⟩ := hE
        simp only [List.drop_succ_cons, List.drop_zero]
        go_wp2_with fail
        simp only [noPan]
        go_wp2_with fail
        go_roundw
        case rel => exact ⟨k + 1, by omega, by go_num, by rw [HN.out, HFE.out k, ← hx.out]; unfold stT; simp only [ByteArray.append_assoc], hM.trans mE⟩
        case measure => simp [intOf]; omega
    · obtain rfl : k = Ys.length := by omega
      by_cases hn : Ys.length = 0
      · have HR := Lib.hid (show jdF F_ Ys.length = ⟨#[45]⟩ by rw [hn]; rfl)
        have i4 : (Ys.length : Int) ≤ 0 := by omega
        have i5 : ((Ys.length : Int) == 0) = true := by simpa using hn
        clear hn
        go_wp2_with fail
        go_ret
        exact ⟨retT HR.out.symm, hMW⟩
      · have HR := Lib.hid (show jdF F_ Ys.length = joF F_ Ys.length from if_neg hn)
        have i4 : (0 : Int) < (Ys.length : Int) := by omega
        have i5 : ((Ys.length : Int) == 0) = false := by simpa using hn
        clear hn
        go_wp2_with fail
        go_ret
        exact ⟨retT HR.out.symm, hMW⟩

set_option maxRecDepth 100000 in
set_option maxHeartbeats 4000000 in
theorem implFPath (a0 a1 : Option Addr) (n0 c0 n1 c1 B : Nat) (zs : List TAS) (a : Option Addr) (n c B' : Nat) (ps : List TPathPart) (w : World) (h : HasAS w B a0 n0 zs) (hB : B ≤ w.heap.size) (hn0 : n0 ≤ 1048576) (hz : ∀ y ∈ zs, TAS.fits y) (hp : HasPathPart w B' a n ps) (hB' : B' ≤ w.heap.size) (hn : szPathPart ps n ≤ 1048576) (hf : ∀ y ∈ ps, TPathPart.fits y) (htab : Lib.TabIs Tryd.prog w "internal/strconv.uint64pow10" .u64 Lib.pow10Tab) :
    Calls Tryd.prog 20 #[.agg #[.slice a0 n0 c0, .slice a1 n1 c1], .agg #[.slice a n c]] w fun e w' => e = .returned (.string (pthT zs n0 ps n)) ∧ Mk0 w w' := by
  obtain ⟨i0, hi0, hz0, hz1, hz2⟩ := info_parts infoStr
  have M0 := (Mk.alloc w (Obj.cells #[Value.slice a0 n0 c0, Value.slice a1 n1 c1] 31)).new (Obj.cells #[Value.slice a n c] 53)
  have k0 : ((w.alloc (Obj.cells #[Value.slice a0 n0 c0, Value.slice a1 n1 c1] 31)).alloc (Obj.cells #[Value.slice a n c] 53)).cell? ⟨w.heap.size, 0, none⟩ = some (.slice a0 n0 c0) := by simp [go_sem]
  have k1 : ((w.alloc (Obj.cells #[Value.slice a0 n0 c0, Value.slice a1 n1 c1] 31)).alloc (Obj.cells #[Value.slice a n c] 53)).cell? ⟨w.heap.size, 1, none⟩ = some (.slice a1 n1 c1) := by simp [go_sem]
  have u0 : ((w.alloc (Obj.cells #[Value.slice a0 n0 c0, Value.slice a1 n1 c1] 31)).alloc (Obj.cells #[Value.slice a n c] 53)).cell? ⟨w.heap.size + 1, 0, none⟩ = some (.slice a n c) := by simp [go_sem]
  obtain ⟨Ys, hYs⟩ : ∃ Ys, Hid (Ys = pathSt ps n) := ⟨_, Lib.hid rfl⟩
  have HYF : Hid (∀ k, TStep.fits (Ys.getD k default)) := Lib.hid (fun k => by rw [hYs.out]; exact stp_f0 (pathSt_fits hf n) k)
  have HYL : Hid (Ys.length ≤ 1048576) := Lib.hid (by rw [hYs.out]; exact Nat.le_trans (pathSt_le ps n) hn)
  obtain ⟨F_, hF⟩ : ∃ F_, Hid (F_ = pthF zs n0 Ys) := ⟨_, Lib.hid rfl⟩
  have HFA : Hid (∀ k, (F_ k).size ≤ 87) := Lib.hid (fun k => by rw [hF.out]; exact stT_size h.1 hz (HYF.out k))
  have HFE : Hid (∀ k : Nat, F_ k = stT zs n0 (Ys.getD k default)) := Lib.hid (fun k => by rw [hF.out]; rfl)
  unfold pthT
  rw [← hYs.out, ← hF.out]
  have HZ := Lib.hid hz
  clear hz hf
  generalize hWW : ((w.alloc (Obj.cells #[Value.slice a0 n0 c0, Value.slice a1 n1 c1] 31)).alloc (Obj.cells #[Value.slice a n c] 53)) = WW at *
  have k0' := (Mk.alloc WW (.cells #[] 9)).cellAt k0
  have k1' := (Mk.alloc WW (.cells #[] 9)).cellAt k1
  have u0' := (Mk.alloc WW (.cells #[] 9)).cellAt u0
  go_enter Tryd.func20, Tryd.ntmps20
  go_wp2_with fail
  clear hWW k0' k1' u0'
  have hl0 := own_emptyR WW 9 1
  have ML := Mk.alloc WW (.cells #[] 9)
  have M1 := M0.trans ML
  refine (implStepsOf a n c B' ps _ (hp.mk M1 hB' (.inr (Nat.le_refl _))) (Nat.le_trans hB' M1.size) hn).mono ?_
  rw [← hYs.out]
  rintro e w2 ⟨A, N, cc, rfl, hcc, oo, m2⟩
  obtain rfl : Ys.length = N := oo.1
  have HFS : Hid (∀ k, k < Ys.length → (F_ k).size ≤ 87) := Lib.hid (fun k _ => HFA.out k)
  have hNl := HYL.out
  have hl2 := own_keptR hl0 m2
  have M2 := ML.trans m2
  obtain ⟨lo, hlo⟩ : ∃ lo, Hid (lo = (WW.alloc (.cells #[] 9)).heap.size) := ⟨_, rfl⟩
  rw [← hlo.out] at oo
  have hlo1 : lo = WW.heap.size + 1 := by rw [hlo.out, World.size_alloc]
  have hb0 : ∀ g, (Value.slice (some ⟨WW.heap.size, 0, none⟩) 0 0).ownBlock = some g → g < lo ∨ w2.heap.size ≤ g := fun g hg => .inl (by
    have : WW.heap.size = g := by simpa [Value.ownBlock] using hg
    omega)
  clear hl0 ML M1 m2 hlo1 hlo
  go_wp2_with fail
  go_loopw [5, 12] (fun v i wr => ∃ k : Nat, k ≤ Ys.length ∧ i = .int .i64 k ∧ wr.ownsRow WW.heap.size 9 1 v k (rowC 1 strC (tl F_ k)) ∧ (∀ g, v.ownBlock = some g → g < lo ∨ w2.heap.size ≤ g) ∧ OwnStep wr lo w2.heap.size A Ys.length Ys ∧ Mk0 WW wr ∧ w2.heap.size ≤ wr.heap.size) (fun _ i _ => Ys.length - (intOf i).toNat)
  case atStart => exact ⟨0, Nat.zero_le _, rfl, hl2, hb0, oo, M2, Nat.le_refl _⟩
  case round =>
    clear hl2 hb0 oo M2
    obtain ⟨k, hk, rfl, hown, hvb, oo, hM, hs2⟩ := hrel
    have HVB := Lib.hid hvb
    clear hvb
    replace k0 := hM.cellAt k0
    replace k1 := hM.cellAt k1
    have hMW := M0.trans hM
    have hlow := hM.size
    by_cases hlt : k < Ys.length
    · obtain ⟨b, off, y, rfl, hb, hx, d0, d1, d2⟩ := HasStep.at _ _ _ _ _ _ oo.has hlt
      have hbr := World.block_lt_of_cell? _ _ d0
      have hbk := World.block_lt_of_cell? _ _ k0
      simp only at hbr hbk
      have hyf : TStep.fits y := by rw [hx.out]; exact HYF.out k
      have i1 : (0 : Int) ≤ (k : Int) := by omega
      have i2 : (k : Int) < (Ys.length : Int) := by omega
      have HE := Lib.hid (show stT zs n0 y = F_ k by rw [HFE.out k, hx.out])
      have MX := Mk.alloc wr (Obj.cells #[Value.int .i64 y.nd, Value.int .i64 y.ing, Value.int .i64 y.eg] 96)
      have MB := hMW.trans MX
      replace k0 := MX.cellAt k0
      replace k1 := MX.cellAt k1
      go_wp2_with fail
      refine (implStF a0 a1 n0 c0 n1 c1 B zs y _ (h.mk MB hB (.inr (Nat.le_refl _))) (Nat.le_trans hB MB.size) hn0 HZ.out hyf (tab_mk htab MB)).mono ?_
      rw [HE.out]
      rintro e wC ⟨rfl, mC'⟩
      have mC := MX.trans mC'
      have MA := Mk.alloc wC (.cells #[.string (F_ k)] 9)
      have mD := mC.trans MA
      have hownX := own_keptR hown mD
      have hhX := hasR_new (cell := strC) (nc := 1) (by decide) wC 9 (F_ k) #[.string (F_ k)] (fun j hj => by match j, hj with | 0, _ => rfl)
      have hloX := Nat.le_trans hlow mD.size
      go_wp2_with (at_builtin; refine wpList_appR4 (by decide) oneStr rfl (.tmp 16) (.tmp 20) 72 rfl WW.heap.size 9 i0 _ Tryd.underlying72 hi0 hz0 rfl hz1 (by rw [hz2]; decide) _ (tl F_ k) k rfl hownX _ 1 1 [F_ k] rfl (fun h => by cases h) hhX (by omega) hloX ?_; intro v2 w4 hown2 hgr2 hvb2)
      have M4 := (hM.trans mD).appR hgr2 (fun g hg => (hownX.lt g hg).1)
      have oo4 := (oo.mk mD hs2 (.inr (.inr (Nat.le_refl _)))).grown hgr2 (fun g hg => HVB.out g hg) (Nat.le_trans hs2 mD.size)
      have hs4 := Nat.le_trans (Nat.le_trans hs2 mD.size) hgr2.size
      go_wp2_with fail
      go_roundw
      case rel =>
        refine ⟨k + 1, by omega, by go_num, by rw [tl_succ]; exact hown2, fun g hg => ?_, oo4, M4, hs4⟩
        rcases hvb2 with hv | hv
        · exact HVB.out g (hv ▸ hg)
        · rw [hv] at hg; injection hg with hg; have := Nat.le_trans hs2 mD.size; omega
      case measure => simp [intOf]; omega
    · obtain rfl : k = Ys.length := by omega
      obtain ⟨A', C, rfl, hca, hcb⟩ := ownsRow_sliceR2 hown
      have ho := ownsRow_ownR (by decide) hown
      go_wp2_with fail
      refine (implJoD F_ A' Ys.length C wr.heap.size _ ho.has (Nat.le_refl _) hNl hcb (fun j hj => Nat.le_trans (HFS.out j hj) (by decide))).mono ?_
      rintro e w5 ⟨rfl, m5⟩
      go_wp2_with fail
      go_ret
      exact ⟨rfl, hMW.trans m5⟩

end Go.Proofs.YthpejolljkbenaaDoor
namespace Go.Proofs.YthpejolljkbenaaDoor
open Go Go.ChangeShapes Go.WideShapes Go.ChangeAt Go.RowKit
set_option linter.unusedVariables false
def pnT (k : Int) : ByteArray := if k = 1 then ⟨#[100, 97, 116, 97]⟩ else if k = 2 then ⟨#[97, 99, 107]⟩ else if k = 3 then ⟨#[114, 101, 118, 111, 99, 97, 116, 105, 111, 110]⟩ else ⟨#[]⟩
theorem pnT_size (k : Int) : (pnT k).size ≤ 10 := by
  unfold pnT
  repeat' split
  all_goals decide
theorem pnT_out {k : Int} (h1 : ¬ k = 1) (h2 : ¬ k = 2) (h3 : ¬ k = 3) : pnT k = ⟨#[]⟩ := by
  unfold pnT
  rw [if_neg h1, if_neg h2, if_neg h3]
def pkT (zs : List TAS) (n0 : Nat) (ps : List TPathPart) (n : Nat) (k q : Int) : ByteArray := pnT k ++ ⟨#[32]⟩ ++ tI q ++ ⟨#[32]⟩ ++ pthT zs n0 ps n
set_option maxRecDepth 100000 in
set_option maxHeartbeats 4000000 in
theorem implPN (c : Int) (w : World) : Calls Tryd.prog 52 #[.int .i64 c] w fun e w' => e = .returned (.string (pnT c)) ∧ Mk0 w w' := by
  by_cases h1 : c = 1
  · subst h1
    go_enter Tryd.func52, Tryd.ntmps52
    go_wp2_with go_in
    all_goals (go_ret; exact ⟨rfl, Mk.of_below (by go_grown)⟩)
  have n1 : (c == 1) = false := by simpa using h1
  by_cases h2 : c = 2
  · subst h2
    go_enter Tryd.func52, Tryd.ntmps52
    go_wp2_with go_in
    all_goals (go_ret; exact ⟨rfl, Mk.of_below (by go_grown)⟩)
  have n2 : (c == 2) = false := by simpa using h2
  by_cases h3 : c = 3
  · subst h3
    go_enter Tryd.func52, Tryd.ntmps52
    go_wp2_with go_in
    all_goals (go_ret; exact ⟨rfl, Mk.of_below (by go_grown)⟩)
  have n3 : (c == 3) = false := by simpa using h3
  have HV := Lib.hid (pnT_out h1 h2 h3)
  clear h1 h2 h3
  go_enter Tryd.func52, Tryd.ntmps52
  go_wp2_with go_in
  all_goals (go_ret; exact ⟨retT HV.out.symm, Mk.of_below (by go_grown)⟩)

set_option maxRecDepth 100000 in
set_option maxHeartbeats 4000000 in
theorem implFPk (a0 a1 : Option Addr) (n0 c0 n1 c1 B : Nat) (zs : List TAS) (x0 x1 x2 x4 x5 x6 x7 x8 : Int) (a3 a9 : Option Addr) (n3 c3 n9 c9 B' : Nat) (ps : List TPathPart) (w : World) (h : HasAS w B a0 n0 zs) (hB : B ≤ w.heap.size) (hn0 : n0 ≤ 1048576) (hz : ∀ y ∈ zs, TAS.fits y) (hp : HasPathPart w B' a3 n3 ps) (hB' : B' ≤ w.heap.size) (hn : szPathPart ps n3 ≤ 1048576) (hf : ∀ y ∈ ps, TPathPart.fits y) (h0_x8 : -9223372036854775808 ≤ x8) (h1_x8 : x8 ≤ 9223372036854775807) (htab : Lib.TabIs Tryd.prog w "internal/strconv.uint64pow10" .u64 Lib.pow10Tab) :
    Calls Tryd.prog 25 #[.agg #[.slice a0 n0 c0, .slice a1 n1 c1], .agg #[.int .i64 x0, .int .i64 x1, .int .i64 x2, .slice a3 n3 c3, .int .i64 x4, .int .i64 x5, .int .i64 x6, .int .i64 x7, .int .i64 x8, .slice a9 n9 c9]] w fun e w' => e = .returned (.string (pkT zs n0 ps n3 x0 x8)) ∧ Mk0 w w' := by
  have M0 := (Mk.alloc w (Obj.cells #[Value.slice a0 n0 c0, Value.slice a1 n1 c1] 31)).new (Obj.cells #[Value.int .i64 x0, Value.int .i64 x1, Value.int .i64 x2, Value.slice a3 n3 c3, Value.int .i64 x4, Value.int .i64 x5, Value.int .i64 x6, Value.int .i64 x7, Value.int .i64 x8, Value.slice a9 n9 c9] 63)
  have k0 : ((w.alloc (Obj.cells #[Value.slice a0 n0 c0, Value.slice a1 n1 c1] 31)).alloc (Obj.cells #[Value.int .i64 x0, Value.int .i64 x1, Value.int .i64 x2, Value.slice a3 n3 c3, Value.int .i64 x4, Value.int .i64 x5, Value.int .i64 x6, Value.int .i64 x7, Value.int .i64 x8, Value.slice a9 n9 c9] 63)).cell? ⟨w.heap.size, 0, none⟩ = some (.slice a0 n0 c0) := by simp [go_sem]
  have k1 : ((w.alloc (Obj.cells #[Value.slice a0 n0 c0, Value.slice a1 n1 c1] 31)).alloc (Obj.cells #[Value.int .i64 x0, Value.int .i64 x1, Value.int .i64 x2, Value.slice a3 n3 c3, Value.int .i64 x4, Value.int .i64 x5, Value.int .i64 x6, Value.int .i64 x7, Value.int .i64 x8, Value.slice a9 n9 c9] 63)).cell? ⟨w.heap.size, 1, none⟩ = some (.slice a1 n1 c1) := by simp [go_sem]
  have p0 : ((w.alloc (Obj.cells #[Value.slice a0 n0 c0, Value.slice a1 n1 c1] 31)).alloc (Obj.cells #[Value.int .i64 x0, Value.int .i64 x1, Value.int .i64 x2, Value.slice a3 n3 c3, Value.int .i64 x4, Value.int .i64 x5, Value.int .i64 x6, Value.int .i64 x7, Value.int .i64 x8, Value.slice a9 n9 c9] 63)).cell? ⟨w.heap.size + 1, 0, none⟩ = some (.int .i64 x0) := by simp [go_sem]
  have p3 : ((w.alloc (Obj.cells #[Value.slice a0 n0 c0, Value.slice a1 n1 c1] 31)).alloc (Obj.cells #[Value.int .i64 x0, Value.int .i64 x1, Value.int .i64 x2, Value.slice a3 n3 c3, Value.int .i64 x4, Value.int .i64 x5, Value.int .i64 x6, Value.int .i64 x7, Value.int .i64 x8, Value.slice a9 n9 c9] 63)).cell? ⟨w.heap.size + 1, 3, none⟩ = some (.slice a3 n3 c3) := by simp [go_sem]
  have p8 : ((w.alloc (Obj.cells #[Value.slice a0 n0 c0, Value.slice a1 n1 c1] 31)).alloc (Obj.cells #[Value.int .i64 x0, Value.int .i64 x1, Value.int .i64 x2, Value.slice a3 n3 c3, Value.int .i64 x4, Value.int .i64 x5, Value.int .i64 x6, Value.int .i64 x7, Value.int .i64 x8, Value.slice a9 n9 c9] 63)).cell? ⟨w.heap.size + 1, 8, none⟩ = some (.int .i64 x8) := by simp [go_sem]
  obtain ⟨P, hP⟩ : ∃ P, Hid (pthT zs n0 ps n3 = P) := ⟨_, Lib.hid rfl⟩
  have hPs : P.size ≤ 100000000 := hP.out ▸ pthT_size h.1 hz hf hn
  unfold pkT
  rw [hP.out]
  have HZ := Lib.hid hz
  have HF := Lib.hid hf
  clear hz hf
  obtain ⟨T, hT⟩ : ∃ T, Hid (pnT x0 = T) := ⟨_, Lib.hid rfl⟩
  have hTs : T.size ≤ 10 := hT.out ▸ pnT_size x0
  rw [hT.out]
  have ad0 := add_ok (T) (⟨#[32]⟩) (p := 10) (q := 1) (hTs) (one1 32) (by decide)
  have ad1 := add_ok (T ++ ⟨#[32]⟩) (tI x8) (p := 11) (q := 21) (size_app (p := 10) (q := 1) (hTs) (one1 32)) (tI_size h0_x8 h1_x8) (by decide)
  have ad2 := add_ok (T ++ ⟨#[32]⟩ ++ tI x8) (⟨#[32]⟩) (p := 32) (q := 1) (size_app (p := 11) (q := 21) (size_app (p := 10) (q := 1) (hTs) (one1 32)) (tI_size h0_x8 h1_x8)) (one1 32) (by decide)
  have ad3 := add_ok (T ++ ⟨#[32]⟩ ++ tI x8 ++ ⟨#[32]⟩) (P) (p := 33) (q := 100000000) (size_app (p := 32) (q := 1) (size_app (p := 11) (q := 21) (size_app (p := 10) (q := 1) (hTs) (one1 32)) (tI_size h0_x8 h1_x8)) (one1 32)) (hPs) (by decide)
  go_enter Tryd.func25, Tryd.ntmps25
  go_wp2_with fail
  refine wp_region_wk (fun w' => Mk0 ((w.alloc (Obj.cells #[Value.slice a0 n0 c0, Value.slice a1 n1 c1] 31)).alloc (Obj.cells #[Value.int .i64 x0, Value.int .i64 x1, Value.int .i64 x2, Value.slice a3 n3 c3, Value.int .i64 x4, Value.int .i64 x5, Value.int .i64 x6, Value.int .i64 x7, Value.int .i64 x8, Value.slice a9 n9 c9] 63)) w' ∧ w'.cell? ⟨w.heap.size, 0, none⟩ = some (.slice a0 n0 c0) ∧ w'.cell? ⟨w.heap.size, 1, none⟩ = some (.slice a1 n1 c1) ∧ w'.cell? ⟨w.heap.size + 1, 0, none⟩ = some (.int .i64 x0) ∧ w'.cell? ⟨w.heap.size + 1, 3, none⟩ = some (.slice a3 n3 c3) ∧ w'.cell? ⟨w.heap.size + 1, 8, none⟩ = some (.int .i64 x8)) (by kernel_rfl) (by kernel_rfl) (⟨Mk.drew1 _, k0, k1, p0, p3, p8⟩) ?_
  change Wk _ _ _ _ 15 0 _
  first | (refine Wk.skip (m := 14) (k := 0) rfl (by rfl) ?_) | (refine Wk.step (m := 14) (k := 0) (v := _) rfl (by rfl) (fun wv hS => by obtain ⟨s0, s1, s2, s3, s4, s5⟩ := hS; go_simp; try with_reducible rfl) ?_)
  try simp only [Act.put, List.getElem_toArray, List.getElem_cons_zero, List.setIfInBounds_toArray, List.set_cons_zero, List.set_cons_succ]
  first | (refine Wk.skip (m := 13) (k := 1) rfl (by rfl) ?_) | (refine Wk.step (m := 13) (k := 1) (v := _) rfl (by rfl) (fun wv hS => by obtain ⟨s0, s1, s2, s3, s4, s5⟩ := hS; go_simp; try with_reducible rfl) ?_)
  try simp only [Act.put, List.getElem_toArray, List.getElem_cons_succ, List.getElem_cons_zero, List.setIfInBounds_toArray, List.set_cons_zero, List.set_cons_succ]
  refine Wk.call (m := 12) (k := 2) (v := .string T) _ _ rfl (by rfl) (fun wv hS => by obtain ⟨s0, s1, s2, s3, s4, s5⟩ := hS; go_simp; first | done | exact ⟨rfl, rfl⟩ | with_reducible rfl) (fun wv hS => ?_) ?_; · obtain ⟨s0, s1, s2, s3, s4, s5⟩ := hS; refine (implPN x0 wv).mono ?_; rintro e w' ⟨he, mm⟩; exact ⟨by rw [he, hT.out], s0.trans mm, mm.cellAt s1, mm.cellAt s2, mm.cellAt s3, mm.cellAt s4, mm.cellAt s5⟩
  try simp only [Act.put, List.getElem_toArray, List.getElem_cons_succ, List.getElem_cons_zero, List.setIfInBounds_toArray, List.set_cons_zero, List.set_cons_succ]
  first | (refine Wk.skip (m := 11) (k := 3) rfl (by rfl) ?_) | (refine Wk.step (m := 11) (k := 3) (v := _) rfl (by rfl) (fun wv hS => by obtain ⟨s0, s1, s2, s3, s4, s5⟩ := hS; go_simp; try with_reducible rfl) ?_)
  try simp only [Act.put, List.getElem_toArray, List.getElem_cons_succ, List.getElem_cons_zero, List.setIfInBounds_toArray, List.set_cons_zero, List.set_cons_succ]
  first | (refine Wk.skip (m := 10) (k := 4) rfl (by rfl) ?_) | (refine Wk.step (m := 10) (k := 4) (v := _) rfl (by rfl) (fun wv hS => by obtain ⟨s0, s1, s2, s3, s4, s5⟩ := hS; go_simp; try with_reducible rfl) ?_)
  try simp only [Act.put, List.getElem_toArray, List.getElem_cons_succ, List.getElem_cons_zero, List.setIfInBounds_toArray, List.set_cons_zero, List.set_cons_succ]
  first | (refine Wk.skip (m := 9) (k := 5) rfl (by rfl) ?_) | (refine Wk.step (m := 9) (k := 5) (v := _) rfl (by rfl) (fun wv hS => by obtain ⟨s0, s1, s2, s3, s4, s5⟩ := hS; go_simp; try with_reducible rfl) ?_)
  try simp only [Act.put, List.getElem_toArray, List.getElem_cons_succ, List.getElem_cons_zero, List.setIfInBounds_toArray, List.set_cons_zero, List.set_cons_succ]
  refine Wk.call (m := 8) (k := 6) (v := .string (tI x8)) _ _ rfl (by rfl) (fun wv hS => by obtain ⟨s0, s1, s2, s3, s4, s5⟩ := hS; go_simp; first | done | exact ⟨rfl, rfl⟩ | with_reducible rfl) (fun wv hS => ?_) ?_; · obtain ⟨s0, s1, s2, s3, s4, s5⟩ := hS; refine (implFI x8 h0_x8 h1_x8 wv (tab_mk htab (M0.trans s0))).mono ?_; rintro e w' ⟨he, mm⟩; exact ⟨he, s0.trans mm, mm.cellAt s1, mm.cellAt s2, mm.cellAt s3, mm.cellAt s4, mm.cellAt s5⟩
  try simp only [Act.put, List.getElem_toArray, List.getElem_cons_succ, List.getElem_cons_zero, List.setIfInBounds_toArray, List.set_cons_zero, List.set_cons_succ]
  first | (refine Wk.skip (m := 7) (k := 7) rfl (by rfl) ?_) | (refine Wk.step (m := 7) (k := 7) (v := _) rfl (by rfl) (fun wv hS => by obtain ⟨s0, s1, s2, s3, s4, s5⟩ := hS; go_simp; try with_reducible rfl) ?_)
  try simp only [Act.put, List.getElem_toArray, List.getElem_cons_succ, List.getElem_cons_zero, List.setIfInBounds_toArray, List.set_cons_zero, List.set_cons_succ]
  first | (refine Wk.skip (m := 6) (k := 8) rfl (by rfl) ?_) | (refine Wk.step (m := 6) (k := 8) (v := _) rfl (by rfl) (fun wv hS => by obtain ⟨s0, s1, s2, s3, s4, s5⟩ := hS; go_simp; try with_reducible rfl) ?_)
  try simp only [Act.put, List.getElem_toArray, List.getElem_cons_succ, List.getElem_cons_zero, List.setIfInBounds_toArray, List.set_cons_zero, List.set_cons_succ]
  first | (refine Wk.skip (m := 5) (k := 9) rfl (by rfl) ?_) | (refine Wk.step (m := 5) (k := 9) (v := _) rfl (by rfl) (fun wv hS => by obtain ⟨s0, s1, s2, s3, s4, s5⟩ := hS; go_simp; try with_reducible rfl) ?_)
  try simp only [Act.put, List.getElem_toArray, List.getElem_cons_succ, List.getElem_cons_zero, List.setIfInBounds_toArray, List.set_cons_zero, List.set_cons_succ]
  first | (refine Wk.skip (m := 4) (k := 10) rfl (by rfl) ?_) | (refine Wk.step (m := 4) (k := 10) (v := _) rfl (by rfl) (fun wv hS => by obtain ⟨s0, s1, s2, s3, s4, s5⟩ := hS; go_simp; try with_reducible rfl) ?_)
  try simp only [Act.put, List.getElem_toArray, List.getElem_cons_succ, List.getElem_cons_zero, List.setIfInBounds_toArray, List.set_cons_zero, List.set_cons_succ]
  first | (refine Wk.skip (m := 3) (k := 11) rfl (by rfl) ?_) | (refine Wk.step (m := 3) (k := 11) (v := _) rfl (by rfl) (fun wv hS => by obtain ⟨s0, s1, s2, s3, s4, s5⟩ := hS; go_simp; try with_reducible rfl) ?_)
  try simp only [Act.put, List.getElem_toArray, List.getElem_cons_succ, List.getElem_cons_zero, List.setIfInBounds_toArray, List.set_cons_zero, List.set_cons_succ]
  refine Wk.call (m := 2) (k := 12) (v := .string P) _ _ rfl (by rfl) (fun wv hS => by obtain ⟨s0, s1, s2, s3, s4, s5⟩ := hS; go_simp; first | done | exact ⟨rfl, rfl⟩ | with_reducible rfl) (fun wv hS => ?_) ?_; · obtain ⟨s0, s1, s2, s3, s4, s5⟩ := hS; refine (implFPath a0 a1 n0 c0 n1 c1 B zs a3 n3 c3 B' ps wv (h.mk (M0.trans s0) hB (.inr (Nat.le_refl _))) (Nat.le_trans hB (M0.trans s0).size) hn0 HZ.out (hp.mk (M0.trans s0) hB' (.inr (Nat.le_refl _))) (Nat.le_trans hB' (M0.trans s0).size) hn HF.out (tab_mk htab (M0.trans s0))).mono ?_; rintro e w' ⟨he, mm⟩; exact ⟨by rw [he, hP.out], s0.trans mm, mm.cellAt s1, mm.cellAt s2, mm.cellAt s3, mm.cellAt s4, mm.cellAt s5⟩
  try simp only [Act.put, List.getElem_toArray, List.getElem_cons_succ, List.getElem_cons_zero, List.setIfInBounds_toArray, List.set_cons_zero, List.set_cons_succ]
  first | (refine Wk.skip (m := 1) (k := 13) rfl (by rfl) ?_) | (refine Wk.step (m := 1) (k := 13) (v := _) rfl (by rfl) (fun wv hS => by obtain ⟨s0, s1, s2, s3, s4, s5⟩ := hS; go_simp; try with_reducible rfl) ?_)
  try simp only [Act.put, List.getElem_toArray, List.getElem_cons_succ, List.getElem_cons_zero, List.setIfInBounds_toArray, List.set_cons_zero, List.set_cons_succ]
  first | (refine Wk.skip (m := 0) (k := 14) rfl (by rfl) ?_) | (refine Wk.step (m := 0) (k := 14) (v := _) rfl (by rfl) (fun wv hS => by obtain ⟨s0, s1, s2, s3, s4, s5⟩ := hS; go_simp; try with_reducible rfl) ?_)
  try simp only [Act.put, List.getElem_toArray, List.getElem_cons_succ, List.getElem_cons_zero, List.setIfInBounds_toArray, List.set_cons_zero, List.set_cons_succ]
  refine Wk.done fun wE hE => ?_
  clear k0 k1 p0 p3 p8
  obtain ⟨mE, k0, k1, p0, p3, p8⟩ := hE
  go_wp2_with fail
  go_ret
  exact ⟨rfl, M0.trans mE⟩

set_option maxRecDepth 100000 in
set_option maxHeartbeats 4000000 in
theorem specFPk (a0 a1 : Option Addr) (n0 c0 n1 c1 B : Nat) (zs : List TAS) (x0 x1 x2 x4 x5 x6 x7 x8 : Int) (a3 a9 : Option Addr) (n3 c3 n9 c9 B' : Nat) (ps : List TPathPart) (w : World) (h : HasAS w B a0 n0 zs) (hB : B ≤ w.heap.size) (hn0 : n0 ≤ 1048576) (hz : ∀ y ∈ zs, TAS.fits y) (hp : HasPathPart w B' a3 n3 ps) (hB' : B' ≤ w.heap.size) (hn : szPathPart ps n3 ≤ 1048576) (hf : ∀ y ∈ ps, TPathPart.fits y) (h0_x8 : -9223372036854775808 ≤ x8) (h1_x8 : x8 ≤ 9223372036854775807) :
    Calls Tryd.prog 23 #[.agg #[.slice a0 n0 c0, .slice a1 n1 c1], .agg #[.int .i64 x0, .int .i64 x1, .int .i64 x2, .slice a3 n3 c3, .int .i64 x4, .int .i64 x5, .int .i64 x6, .int .i64 x7, .int .i64 x8, .slice a9 n9 c9]] w fun e w' => e = .returned (.string (pkT zs n0 ps n3 x0 x8)) ∧ Mk0 w w' := by
  have M0 := (Mk.alloc w (Obj.cells #[Value.slice a0 n0 c0, Value.slice a1 n1 c1] 31)).new (Obj.cells #[Value.int .i64 x0, Value.int .i64 x1, Value.int .i64 x2, Value.slice a3 n3 c3, Value.int .i64 x4, Value.int .i64 x5, Value.int .i64 x6, Value.int .i64 x7, Value.int .i64 x8, Value.slice a9 n9 c9] 63)
  have k0 : ((w.alloc (Obj.cells #[Value.slice a0 n0 c0, Value.slice a1 n1 c1] 31)).alloc (Obj.cells #[Value.int .i64 x0, Value.int .i64 x1, Value.int .i64 x2, Value.slice a3 n3 c3, Value.int .i64 x4, Value.int .i64 x5, Value.int .i64 x6, Value.int .i64 x7, Value.int .i64 x8, Value.slice a9 n9 c9] 63)).cell? ⟨w.heap.size, 0, none⟩ = some (.slice a0 n0 c0) := by simp [go_sem]
  have k1 : ((w.alloc (Obj.cells #[Value.slice a0 n0 c0, Value.slice a1 n1 c1] 31)).alloc (Obj.cells #[Value.int .i64 x0, Value.int .i64 x1, Value.int .i64 x2, Value.slice a3 n3 c3, Value.int .i64 x4, Value.int .i64 x5, Value.int .i64 x6, Value.int .i64 x7, Value.int .i64 x8, Value.slice a9 n9 c9] 63)).cell? ⟨w.heap.size, 1, none⟩ = some (.slice a1 n1 c1) := by simp [go_sem]
  have p0 : ((w.alloc (Obj.cells #[Value.slice a0 n0 c0, Value.slice a1 n1 c1] 31)).alloc (Obj.cells #[Value.int .i64 x0, Value.int .i64 x1, Value.int .i64 x2, Value.slice a3 n3 c3, Value.int .i64 x4, Value.int .i64 x5, Value.int .i64 x6, Value.int .i64 x7, Value.int .i64 x8, Value.slice a9 n9 c9] 63)).cell? ⟨w.heap.size + 1, 0, none⟩ = some (.int .i64 x0) := by simp [go_sem]
  have p3 : ((w.alloc (Obj.cells #[Value.slice a0 n0 c0, Value.slice a1 n1 c1] 31)).alloc (Obj.cells #[Value.int .i64 x0, Value.int .i64 x1, Value.int .i64 x2, Value.slice a3 n3 c3, Value.int .i64 x4, Value.int .i64 x5, Value.int .i64 x6, Value.int .i64 x7, Value.int .i64 x8, Value.slice a9 n9 c9] 63)).cell? ⟨w.heap.size + 1, 3, none⟩ = some (.slice a3 n3 c3) := by simp [go_sem]
  have p8 : ((w.alloc (Obj.cells #[Value.slice a0 n0 c0, Value.slice a1 n1 c1] 31)).alloc (Obj.cells #[Value.int .i64 x0, Value.int .i64 x1, Value.int .i64 x2, Value.slice a3 n3 c3, Value.int .i64 x4, Value.int .i64 x5, Value.int .i64 x6, Value.int .i64 x7, Value.int .i64 x8, Value.slice a9 n9 c9] 63)).cell? ⟨w.heap.size + 1, 8, none⟩ = some (.int .i64 x8) := by simp [go_sem]
  obtain ⟨P, hP⟩ : ∃ P, Hid (pthT zs n0 ps n3 = P) := ⟨_, Lib.hid rfl⟩
  have hPs : P.size ≤ 100000000 := hP.out ▸ pthT_size h.1 hz hf hn
  unfold pkT
  rw [hP.out]
  have HZ := Lib.hid hz
  have HF := Lib.hid hf
  clear hz hf
  by_cases h1 : x0 = 1
  · subst h1
    have lz : ((⟨#[100, 97, 116, 97]⟩ : ByteArray)).size ≤ 10 := by decide
    have HL := Lib.hid (show ⟨#[100, 97, 116, 97]⟩ ++ ⟨#[32]⟩ ++ tI x8 ++ ⟨#[32]⟩ ++ P = pnT 1 ++ ⟨#[32]⟩ ++ tI x8 ++ ⟨#[32]⟩ ++ P by rw [show pnT 1 = ⟨#[100, 97, 116, 97]⟩ from rfl])
    have ad0 := add_ok (⟨#[100, 97, 116, 97]⟩) (⟨#[32]⟩) (p := 10) (q := 1) (lz) (one1 32) (by decide)
    have ad1 := add_ok (⟨#[100, 97, 116, 97]⟩ ++ ⟨#[32]⟩) (tI x8) (p := 11) (q := 21) (size_app (p := 10) (q := 1) (lz) (one1 32)) (tI_size h0_x8 h1_x8) (by decide)
    have ad2 := add_ok (⟨#[100, 97, 116, 97]⟩ ++ ⟨#[32]⟩ ++ tI x8) (⟨#[32]⟩) (p := 32) (q := 1) (size_app (p := 11) (q := 21) (size_app (p := 10) (q := 1) (lz) (one1 32)) (tI_size h0_x8 h1_x8)) (one1 32) (by decide)
    have ad3 := add_ok (⟨#[100, 97, 116, 97]⟩ ++ ⟨#[32]⟩ ++ tI x8 ++ ⟨#[32]⟩) (P) (p := 33) (q := 100000000) (size_app (p := 32) (q := 1) (size_app (p := 11) (q := 21) (size_app (p := 10) (q := 1) (lz) (one1 32)) (tI_size h0_x8 h1_x8)) (one1 32)) (hPs) (by decide)
    go_enter Tryd.func23, Tryd.ntmps23
    go_wp2_with fail
    refine wp_region_wk (fun w' => Mk0 ((w.alloc (Obj.cells #[Value.slice a0 n0 c0, Value.slice a1 n1 c1] 31)).alloc (Obj.cells #[Value.int .i64 1, Value.int .i64 x1, Value.int .i64 x2, Value.slice a3 n3 c3, Value.int .i64 x4, Value.int .i64 x5, Value.int .i64 x6, Value.int .i64 x7, Value.int .i64 x8, Value.slice a9 n9 c9] 63)) w' ∧ w'.cell? ⟨w.heap.size, 0, none⟩ = some (.slice a0 n0 c0) ∧ w'.cell? ⟨w.heap.size, 1, none⟩ = some (.slice a1 n1 c1) ∧ w'.cell? ⟨w.heap.size + 1, 0, none⟩ = some (.int .i64 1) ∧ w'.cell? ⟨w.heap.size + 1, 3, none⟩ = some (.slice a3 n3 c3) ∧ w'.cell? ⟨w.heap.size + 1, 8, none⟩ = some (.int .i64 x8)) (by kernel_rfl) (by kernel_rfl) (⟨Mk.drew1 _, k0, k1, p0, p3, p8⟩) ?_
    change Wk _ _ _ _ 13 0 _
    first | (refine Wk.skip (m := 12) (k := 0) rfl (by rfl) ?_) | (refine Wk.step (m := 12) (k := 0) (v := _) rfl (by rfl) (fun wv hS => by obtain ⟨s0, s1, s2, s3, s4, s5⟩ := hS; go_simp; try with_reducible rfl) ?_)
    try simp only [Act.put, List.getElem_toArray, List.getElem_cons_zero, List.setIfInBounds_toArray, List.set_cons_zero, List.set_cons_succ]
    first | (refine Wk.skip (m := 11) (k := 1) rfl (by rfl) ?_) | (refine Wk.step (m := 11) (k := 1) (v := _) rfl (by rfl) (fun wv hS => by obtain ⟨s0, s1, s2, s3, s4, s5⟩ := hS; go_simp; try with_reducible rfl) ?_)
    try simp only [Act.put, List.getElem_toArray, List.getElem_cons_succ, List.getElem_cons_zero, List.setIfInBounds_toArray, List.set_cons_zero, List.set_cons_succ]
    first | (refine Wk.skip (m := 10) (k := 2) rfl (by rfl) ?_) | (refine Wk.step (m := 10) (k := 2) (v := _) rfl (by rfl) (fun wv hS => by obtain ⟨s0, s1, s2, s3, s4, s5⟩ := hS; go_simp; try with_reducible rfl) ?_)
    try simp only [Act.put, List.getElem_toArray, List.getElem_cons_succ, List.getElem_cons_zero, List.setIfInBounds_toArray, List.set_cons_zero, List.set_cons_succ]
    first | (refine Wk.skip (m := 9) (k := 3) rfl (by rfl) ?_) | (refine Wk.step (m := 9) (k := 3) (v := _) rfl (by rfl) (fun wv hS => by obtain ⟨s0, s1, s2, s3, s4, s5⟩ := hS; go_simp; try with_reducible rfl) ?_)
    try simp only [Act.put, List.getElem_toArray, List.getElem_cons_succ, List.getElem_cons_zero, List.setIfInBounds_toArray, List.set_cons_zero, List.set_cons_succ]
    refine Wk.call (m := 8) (k := 4) (v := .string (tI x8)) _ _ rfl (by rfl) (fun wv hS => by obtain ⟨s0, s1, s2, s3, s4, s5⟩ := hS; go_simp; first | done | exact ⟨rfl, rfl⟩ | with_reducible rfl) (fun wv hS => ?_) ?_; · obtain ⟨s0, s1, s2, s3, s4, s5⟩ := hS; refine (specFI x8 h0_x8 h1_x8 wv).mono ?_; rintro e w' ⟨he, mm⟩; exact ⟨he, s0.trans mm, mm.cellAt s1, mm.cellAt s2, mm.cellAt s3, mm.cellAt s4, mm.cellAt s5⟩
    try simp only [Act.put, List.getElem_toArray, List.getElem_cons_succ, List.getElem_cons_zero, List.setIfInBounds_toArray, List.set_cons_zero, List.set_cons_succ]
    first | (refine Wk.skip (m := 7) (k := 5) rfl (by rfl) ?_) | (refine Wk.step (m := 7) (k := 5) (v := _) rfl (by rfl) (fun wv hS => by obtain ⟨s0, s1, s2, s3, s4, s5⟩ := hS; go_simp; try with_reducible rfl) ?_)
    try simp only [Act.put, List.getElem_toArray, List.getElem_cons_succ, List.getElem_cons_zero, List.setIfInBounds_toArray, List.set_cons_zero, List.set_cons_succ]
    first | (refine Wk.skip (m := 6) (k := 6) rfl (by rfl) ?_) | (refine Wk.step (m := 6) (k := 6) (v := _) rfl (by rfl) (fun wv hS => by obtain ⟨s0, s1, s2, s3, s4, s5⟩ := hS; go_simp; try with_reducible rfl) ?_)
    try simp only [Act.put, List.getElem_toArray, List.getElem_cons_succ, List.getElem_cons_zero, List.setIfInBounds_toArray, List.set_cons_zero, List.set_cons_succ]
    first | (refine Wk.skip (m := 5) (k := 7) rfl (by rfl) ?_) | (refine Wk.step (m := 5) (k := 7) (v := _) rfl (by rfl) (fun wv hS => by obtain ⟨s0, s1, s2, s3, s4, s5⟩ := hS; go_simp; try with_reducible rfl) ?_)
    try simp only [Act.put, List.getElem_toArray, List.getElem_cons_succ, List.getElem_cons_zero, List.setIfInBounds_toArray, List.set_cons_zero, List.set_cons_succ]
    first | (refine Wk.skip (m := 4) (k := 8) rfl (by rfl) ?_) | (refine Wk.step (m := 4) (k := 8) (v := _) rfl (by rfl) (fun wv hS => by obtain ⟨s0, s1, s2, s3, s4, s5⟩ := hS; go_simp; try with_reducible rfl) ?_)
    try simp only [Act.put, List.getElem_toArray, List.getElem_cons_succ, List.getElem_cons_zero, List.setIfInBounds_toArray, List.set_cons_zero, List.set_cons_succ]
    first | (refine Wk.skip (m := 3) (k := 9) rfl (by rfl) ?_) | (refine Wk.step (m := 3) (k := 9) (v := _) rfl (by rfl) (fun wv hS => by obtain ⟨s0, s1, s2, s3, s4, s5⟩ := hS; go_simp; try with_reducible rfl) ?_)
    try simp only [Act.put, List.getElem_toArray, List.getElem_cons_succ, List.getElem_cons_zero, List.setIfInBounds_toArray, List.set_cons_zero, List.set_cons_succ]
    refine Wk.call (m := 2) (k := 10) (v := .string P) _ _ rfl (by rfl) (fun wv hS => by obtain ⟨s0, s1, s2, s3, s4, s5⟩ := hS; go_simp; first | done | exact ⟨rfl, rfl⟩ | with_reducible rfl) (fun wv hS => ?_) ?_; · obtain ⟨s0, s1, s2, s3, s4, s5⟩ := hS; refine (specFPath a0 a1 n0 c0 n1 c1 B zs a3 n3 c3 B' ps wv (h.mk (M0.trans s0) hB (.inr (Nat.le_refl _))) (Nat.le_trans hB (M0.trans s0).size) hn0 HZ.out (hp.mk (M0.trans s0) hB' (.inr (Nat.le_refl _))) (Nat.le_trans hB' (M0.trans s0).size) hn HF.out).mono ?_; rintro e w' ⟨he, mm⟩; exact ⟨by rw [he, hP.out], s0.trans mm, mm.cellAt s1, mm.cellAt s2, mm.cellAt s3, mm.cellAt s4, mm.cellAt s5⟩
    try simp only [Act.put, List.getElem_toArray, List.getElem_cons_succ, List.getElem_cons_zero, List.setIfInBounds_toArray, List.set_cons_zero, List.set_cons_succ]
    first | (refine Wk.skip (m := 1) (k := 11) rfl (by rfl) ?_) | (refine Wk.step (m := 1) (k := 11) (v := _) rfl (by rfl) (fun wv hS => by obtain ⟨s0, s1, s2, s3, s4, s5⟩ := hS; go_simp; try with_reducible rfl) ?_)
    try simp only [Act.put, List.getElem_toArray, List.getElem_cons_succ, List.getElem_cons_zero, List.setIfInBounds_toArray, List.set_cons_zero, List.set_cons_succ]
    first | (refine Wk.skip (m := 0) (k := 12) rfl (by rfl) ?_) | (refine Wk.step (m := 0) (k := 12) (v := _) rfl (by rfl) (fun wv hS => by obtain ⟨s0, s1, s2, s3, s4, s5⟩ := hS; go_simp; try with_reducible rfl) ?_)
    try simp only [Act.put, List.getElem_toArray, List.getElem_cons_succ, List.getElem_cons_zero, List.setIfInBounds_toArray, List.set_cons_zero, List.set_cons_succ]
    refine Wk.done fun wE hE => ?_
    clear k0 k1 p0 p3 p8
    obtain ⟨mE, k0, k1, p0, p3, p8⟩ := hE
    go_wp2_with fail
    go_ret
    exact ⟨retT HL.out, M0.trans mE⟩
  have nn1 : (x0 == 1) = false := by simpa using h1
  by_cases h2 : x0 = 2
  · subst h2
    have lz : ((⟨#[97, 99, 107]⟩ : ByteArray)).size ≤ 10 := by decide
    have HL := Lib.hid (show ⟨#[97, 99, 107]⟩ ++ ⟨#[32]⟩ ++ tI x8 ++ ⟨#[32]⟩ ++ P = pnT 2 ++ ⟨#[32]⟩ ++ tI x8 ++ ⟨#[32]⟩ ++ P by rw [show pnT 2 = ⟨#[97, 99, 107]⟩ from rfl])
    have ad0 := add_ok (⟨#[97, 99, 107]⟩) (⟨#[32]⟩) (p := 10) (q := 1) (lz) (one1 32) (by decide)
    have ad1 := add_ok (⟨#[97, 99, 107]⟩ ++ ⟨#[32]⟩) (tI x8) (p := 11) (q := 21) (size_app (p := 10) (q := 1) (lz) (one1 32)) (tI_size h0_x8 h1_x8) (by decide)
    have ad2 := add_ok (⟨#[97, 99, 107]⟩ ++ ⟨#[32]⟩ ++ tI x8) (⟨#[32]⟩) (p := 32) (q := 1) (size_app (p := 11) (q := 21) (size_app (p := 10) (q := 1) (lz) (one1 32)) (tI_size h0_x8 h1_x8)) (one1 32) (by decide)
    have ad3 := add_ok (⟨#[97, 99, 107]⟩ ++ ⟨#[32]⟩ ++ tI x8 ++ ⟨#[32]⟩) (P) (p := 33) (q := 100000000) (size_app (p := 32) (q := 1) (size_app (p := 11) (q := 21) (size_app (p := 10) (q := 1) (lz) (one1 32)) (tI_size h0_x8 h1_x8)) (one1 32)) (hPs) (by decide)
    go_enter Tryd.func23, Tryd.ntmps23
    go_wp2_with fail
    refine wp_region_wk (fun w' => Mk0 ((w.alloc (Obj.cells #[Value.slice a0 n0 c0, Value.slice a1 n1 c1] 31)).alloc (Obj.cells #[Value.int .i64 2, Value.int .i64 x1, Value.int .i64 x2, Value.slice a3 n3 c3, Value.int .i64 x4, Value.int .i64 x5, Value.int .i64 x6, Value.int .i64 x7, Value.int .i64 x8, Value.slice a9 n9 c9] 63)) w' ∧ w'.cell? ⟨w.heap.size, 0, none⟩ = some (.slice a0 n0 c0) ∧ w'.cell? ⟨w.heap.size, 1, none⟩ = some (.slice a1 n1 c1) ∧ w'.cell? ⟨w.heap.size + 1, 0, none⟩ = some (.int .i64 2) ∧ w'.cell? ⟨w.heap.size + 1, 3, none⟩ = some (.slice a3 n3 c3) ∧ w'.cell? ⟨w.heap.size + 1, 8, none⟩ = some (.int .i64 x8)) (by kernel_rfl) (by kernel_rfl) (⟨Mk.drew1 _, k0, k1, p0, p3, p8⟩) ?_
    change Wk _ _ _ _ 13 0 _
    first | (refine Wk.skip (m := 12) (k := 0) rfl (by rfl) ?_) | (refine Wk.step (m := 12) (k := 0) (v := _) rfl (by rfl) (fun wv hS => by obtain ⟨s0, s1, s2, s3, s4, s5⟩ := hS; go_simp; try with_reducible rfl) ?_)
    try simp only [Act.put, List.getElem_toArray, List.getElem_cons_zero, List.setIfInBounds_toArray, List.set_cons_zero, List.set_cons_succ]
    first | (refine Wk.skip (m := 11) (k := 1) rfl (by rfl) ?_) | (refine Wk.step (m := 11) (k := 1) (v := _) rfl (by rfl) (fun wv hS => by obtain ⟨s0, s1, s2, s3, s4, s5⟩ := hS; go_simp; try with_reducible rfl) ?_)
    try simp only [Act.put, List.getElem_toArray, List.getElem_cons_succ, List.getElem_cons_zero, List.setIfInBounds_toArray, List.set_cons_zero, List.set_cons_succ]
    first | (refine Wk.skip (m := 10) (k := 2) rfl (by rfl) ?_) | (refine Wk.step (m := 10) (k := 2) (v := _) rfl (by rfl) (fun wv hS => by obtain ⟨s0, s1, s2, s3, s4, s5⟩ := hS; go_simp; try with_reducible rfl) ?_)
    try simp only [Act.put, List.getElem_toArray, List.getElem_cons_succ, List.getElem_cons_zero, List.setIfInBounds_toArray, List.set_cons_zero, List.set_cons_succ]
    first | (refine Wk.skip (m := 9) (k := 3) rfl (by rfl) ?_) | (refine Wk.step (m := 9) (k := 3) (v := _) rfl (by rfl) (fun wv hS => by obtain ⟨s0, s1, s2, s3, s4, s5⟩ := hS; go_simp; try with_reducible rfl) ?_)
    try simp only [Act.put, List.getElem_toArray, List.getElem_cons_succ, List.getElem_cons_zero, List.setIfInBounds_toArray, List.set_cons_zero, List.set_cons_succ]
    refine Wk.call (m := 8) (k := 4) (v := .string (tI x8)) _ _ rfl (by rfl) (fun wv hS => by obtain ⟨s0, s1, s2, s3, s4, s5⟩ := hS; go_simp; first | done | exact ⟨rfl, rfl⟩ | with_reducible rfl) (fun wv hS => ?_) ?_; · obtain ⟨s0, s1, s2, s3, s4, s5⟩ := hS; refine (specFI x8 h0_x8 h1_x8 wv).mono ?_; rintro e w' ⟨he, mm⟩; exact ⟨he, s0.trans mm, mm.cellAt s1, mm.cellAt s2, mm.cellAt s3, mm.cellAt s4, mm.cellAt s5⟩
    try simp only [Act.put, List.getElem_toArray, List.getElem_cons_succ, List.getElem_cons_zero, List.setIfInBounds_toArray, List.set_cons_zero, List.set_cons_succ]
    first | (refine Wk.skip (m := 7) (k := 5) rfl (by rfl) ?_) | (refine Wk.step (m := 7) (k := 5) (v := _) rfl (by rfl) (fun wv hS => by obtain ⟨s0, s1, s2, s3, s4, s5⟩ := hS; go_simp; try with_reducible rfl) ?_)
    try simp only [Act.put, List.getElem_toArray, List.getElem_cons_succ, List.getElem_cons_zero, List.setIfInBounds_toArray, List.set_cons_zero, List.set_cons_succ]
    first | (refine Wk.skip (m := 6) (k := 6) rfl (by rfl) ?_) | (refine Wk.step (m := 6) (k := 6) (v := _) rfl (by rfl) (fun wv hS => by obtain ⟨s0, s1, s2, s3, s4, s5⟩ := hS; go_simp; try with_reducible rfl) ?_)
    try simp only [Act.put, List.getElem_toArray, List.getElem_cons_succ, List.getElem_cons_zero, List.setIfInBounds_toArray, List.set_cons_zero, List.set_cons_succ]
    first | (refine Wk.skip (m := 5) (k := 7) rfl (by rfl) ?_) | (refine Wk.step (m := 5) (k := 7) (v := _) rfl (by rfl) (fun wv hS => by obtain ⟨s0, s1, s2, s3, s4, s5⟩ := hS; go_simp; try with_reducible rfl) ?_)
    try simp only [Act.put, List.getElem_toArray, List.getElem_cons_succ, List.getElem_cons_zero, List.setIfInBounds_toArray, List.set_cons_zero, List.set_cons_succ]
    first | (refine Wk.skip (m := 4) (k := 8) rfl (by rfl) ?_) | (refine Wk.step (m := 4) (k := 8) (v := _) rfl (by rfl) (fun wv hS => by obtain ⟨s0, s1, s2, s3, s4, s5⟩ := hS; go_simp; try with_reducible rfl) ?_)
    try simp only [Act.put, List.getElem_toArray, List.getElem_cons_succ, List.getElem_cons_zero, List.setIfInBounds_toArray, List.set_cons_zero, List.set_cons_succ]
    first | (refine Wk.skip (m := 3) (k := 9) rfl (by rfl) ?_) | (refine Wk.step (m := 3) (k := 9) (v := _) rfl (by rfl) (fun wv hS => by obtain ⟨s0, s1, s2, s3, s4, s5⟩ := hS; go_simp; try with_reducible rfl) ?_)
    try simp only [Act.put, List.getElem_toArray, List.getElem_cons_succ, List.getElem_cons_zero, List.setIfInBounds_toArray, List.set_cons_zero, List.set_cons_succ]
    refine Wk.call (m := 2) (k := 10) (v := .string P) _ _ rfl (by rfl) (fun wv hS => by obtain ⟨s0, s1, s2, s3, s4, s5⟩ := hS; go_simp; first | done | exact ⟨rfl, rfl⟩ | with_reducible rfl) (fun wv hS => ?_) ?_; · obtain ⟨s0, s1, s2, s3, s4, s5⟩ := hS; refine (specFPath a0 a1 n0 c0 n1 c1 B zs a3 n3 c3 B' ps wv (h.mk (M0.trans s0) hB (.inr (Nat.le_refl _))) (Nat.le_trans hB (M0.trans s0).size) hn0 HZ.out (hp.mk (M0.trans s0) hB' (.inr (Nat.le_refl _))) (Nat.le_trans hB' (M0.trans s0).size) hn HF.out).mono ?_; rintro e w' ⟨he, mm⟩; exact ⟨by rw [he, hP.out], s0.trans mm, mm.cellAt s1, mm.cellAt s2, mm.cellAt s3, mm.cellAt s4, mm.cellAt s5⟩
    try simp only [Act.put, List.getElem_toArray, List.getElem_cons_succ, List.getElem_cons_zero, List.setIfInBounds_toArray, List.set_cons_zero, List.set_cons_succ]
    first | (refine Wk.skip (m := 1) (k := 11) rfl (by rfl) ?_) | (refine Wk.step (m := 1) (k := 11) (v := _) rfl (by rfl) (fun wv hS => by obtain ⟨s0, s1, s2, s3, s4, s5⟩ := hS; go_simp; try with_reducible rfl) ?_)
    try simp only [Act.put, List.getElem_toArray, List.getElem_cons_succ, List.getElem_cons_zero, List.setIfInBounds_toArray, List.set_cons_zero, List.set_cons_succ]
    first | (refine Wk.skip (m := 0) (k := 12) rfl (by rfl) ?_) | (refine Wk.step (m := 0) (k := 12) (v := _) rfl (by rfl) (fun wv hS => by obtain ⟨s0, s1, s2, s3, s4, s5⟩ := hS; go_simp; try with_reducible rfl) ?_)
    try simp only [Act.put, List.getElem_toArray, List.getElem_cons_succ, List.getElem_cons_zero, List.setIfInBounds_toArray, List.set_cons_zero, List.set_cons_succ]
    refine Wk.done fun wE hE => ?_
    clear k0 k1 p0 p3 p8
    obtain ⟨mE, k0, k1, p0, p3, p8⟩ := hE
    go_wp2_with fail
    go_ret
    exact ⟨retT HL.out, M0.trans mE⟩
  have nn2 : (x0 == 2) = false := by simpa using h2
  by_cases h3 : x0 = 3
  · subst h3
    have lz : ((⟨#[114, 101, 118, 111, 99, 97, 116, 105, 111, 110]⟩ : ByteArray)).size ≤ 10 := by decide
    have HL := Lib.hid (show ⟨#[114, 101, 118, 111, 99, 97, 116, 105, 111, 110]⟩ ++ ⟨#[32]⟩ ++ tI x8 ++ ⟨#[32]⟩ ++ P = pnT 3 ++ ⟨#[32]⟩ ++ tI x8 ++ ⟨#[32]⟩ ++ P by rw [show pnT 3 = ⟨#[114, 101, 118, 111, 99, 97, 116, 105, 111, 110]⟩ from rfl])
    have ad0 := add_ok (⟨#[114, 101, 118, 111, 99, 97, 116, 105, 111, 110]⟩) (⟨#[32]⟩) (p := 10) (q := 1) (lz) (one1 32) (by decide)
    have ad1 := add_ok (⟨#[114, 101, 118, 111, 99, 97, 116, 105, 111, 110]⟩ ++ ⟨#[32]⟩) (tI x8) (p := 11) (q := 21) (size_app (p := 10) (q := 1) (lz) (one1 32)) (tI_size h0_x8 h1_x8) (by decide)
    have ad2 := add_ok (⟨#[114, 101, 118, 111, 99, 97, 116, 105, 111, 110]⟩ ++ ⟨#[32]⟩ ++ tI x8) (⟨#[32]⟩) (p := 32) (q := 1) (size_app (p := 11) (q := 21) (size_app (p := 10) (q := 1) (lz) (one1 32)) (tI_size h0_x8 h1_x8)) (one1 32) (by decide)
    have ad3 := add_ok (⟨#[114, 101, 118, 111, 99, 97, 116, 105, 111, 110]⟩ ++ ⟨#[32]⟩ ++ tI x8 ++ ⟨#[32]⟩) (P) (p := 33) (q := 100000000) (size_app (p := 32) (q := 1) (size_app (p := 11) (q := 21) (size_app (p := 10) (q := 1) (lz) (one1 32)) (tI_size h0_x8 h1_x8)) (one1 32)) (hPs) (by decide)
    go_enter Tryd.func23, Tryd.ntmps23
    go_wp2_with fail
    refine wp_region_wk (fun w' => Mk0 ((w.alloc (Obj.cells #[Value.slice a0 n0 c0, Value.slice a1 n1 c1] 31)).alloc (Obj.cells #[Value.int .i64 3, Value.int .i64 x1, Value.int .i64 x2, Value.slice a3 n3 c3, Value.int .i64 x4, Value.int .i64 x5, Value.int .i64 x6, Value.int .i64 x7, Value.int .i64 x8, Value.slice a9 n9 c9] 63)) w' ∧ w'.cell? ⟨w.heap.size, 0, none⟩ = some (.slice a0 n0 c0) ∧ w'.cell? ⟨w.heap.size, 1, none⟩ = some (.slice a1 n1 c1) ∧ w'.cell? ⟨w.heap.size + 1, 0, none⟩ = some (.int .i64 3) ∧ w'.cell? ⟨w.heap.size + 1, 3, none⟩ = some (.slice a3 n3 c3) ∧ w'.cell? ⟨w.heap.size + 1, 8, none⟩ = some (.int .i64 x8)) (by kernel_rfl) (by kernel_rfl) (⟨Mk.drew1 _, k0, k1, p0, p3, p8⟩) ?_
    change Wk _ _ _ _ 13 0 _
    first | (refine Wk.skip (m := 12) (k := 0) rfl (by rfl) ?_) | (refine Wk.step (m := 12) (k := 0) (v := _) rfl (by rfl) (fun wv hS => by obtain ⟨s0, s1, s2, s3, s4, s5⟩ := hS; go_simp; try with_reducible rfl) ?_)
    try simp only [Act.put, List.getElem_toArray, List.getElem_cons_zero, List.setIfInBounds_toArray, List.set_cons_zero, List.set_cons_succ]
    first | (refine Wk.skip (m := 11) (k := 1) rfl (by rfl) ?_) | (refine Wk.step (m := 11) (k := 1) (v := _) rfl (by rfl) (fun wv hS => by obtain ⟨s0, s1, s2, s3, s4, s5⟩ := hS; go_simp; try with_reducible rfl) ?_)
    try simp only [Act.put, List.getElem_toArray, List.getElem_cons_succ, List.getElem_cons_zero, List.setIfInBounds_toArray, List.set_cons_zero, List.set_cons_succ]
    first | (refine Wk.skip (m := 10) (k := 2) rfl (by rfl) ?_) | (refine Wk.step (m := 10) (k := 2) (v := _) rfl (by rfl) (fun wv hS => by obtain ⟨s0, s1, s2, s3, s4, s5⟩ := hS; go_simp; try with_reducible rfl) ?_)
    try simp only [Act.put, List.getElem_toArray, List.getElem_cons_succ, List.getElem_cons_zero, List.setIfInBounds_toArray, List.set_cons_zero, List.set_cons_succ]
    first | (refine Wk.skip (m := 9) (k := 3) rfl (by rfl) ?_) | (refine Wk.step (m := 9) (k := 3) (v := _) rfl (by rfl) (fun wv hS => by obtain ⟨s0, s1, s2, s3, s4, s5⟩ := hS; go_simp; try with_reducible rfl) ?_)
    try simp only [Act.put, List.getElem_toArray, List.getElem_cons_succ, List.getElem_cons_zero, List.setIfInBounds_toArray, List.set_cons_zero, List.set_cons_succ]
    refine Wk.call (m := 8) (k := 4) (v := .string (tI x8)) _ _ rfl (by rfl) (fun wv hS => by obtain ⟨s0, s1, s2, s3, s4, s5⟩ := hS; go_simp; first | done | exact ⟨rfl, rfl⟩ | with_reducible rfl) (fun wv hS => ?_) ?_; · obtain ⟨s0, s1, s2, s3, s4, s5⟩ := hS; refine (specFI x8 h0_x8 h1_x8 wv).mono ?_; rintro e w' ⟨he, mm⟩; exact ⟨he, s0.trans mm, mm.cellAt s1, mm.cellAt s2, mm.cellAt s3, mm.cellAt s4, mm.cellAt s5⟩
    try simp only [Act.put, List.getElem_toArray, List.getElem_cons_succ, List.getElem_cons_zero, List.setIfInBounds_toArray, List.set_cons_zero, List.set_cons_succ]
    first | (refine Wk.skip (m := 7) (k := 5) rfl (by rfl) ?_) | (refine Wk.step (m := 7) (k := 5) (v := _) rfl (by rfl) (fun wv hS => by obtain ⟨s0, s1, s2, s3, s4, s5⟩ := hS; go_simp; try with_reducible rfl) ?_)
    try simp only [Act.put, List.getElem_toArray, List.getElem_cons_succ, List.getElem_cons_zero, List.setIfInBounds_toArray, List.set_cons_zero, List.set_cons_succ]
    first | (refine Wk.skip (m := 6) (k := 6) rfl (by rfl) ?_) | (refine Wk.step (m := 6) (k := 6) (v := _) rfl (by rfl) (fun wv hS => by obtain ⟨s0, s1, s2, s3, s4, s5⟩ := hS; go_simp; try with_reducible rfl) ?_)
    try simp only [Act.put, List.getElem_toArray, List.getElem_cons_succ, List.getElem_cons_zero, List.setIfInBounds_toArray, List.set_cons_zero, List.set_cons_succ]
    first | (refine Wk.skip (m := 5) (k := 7) rfl (by rfl) ?_) | (refine Wk.step (m := 5) (k := 7) (v := _) rfl (by rfl) (fun wv hS => by obtain ⟨s0, s1, s2, s3, s4, s5⟩ := hS; go_simp; try with_reducible rfl) ?_)
    try simp only [Act.put, List.getElem_toArray, List.getElem_cons_succ, List.getElem_cons_zero, List.setIfInBounds_toArray, List.set_cons_zero, List.set_cons_succ]
    first | (refine Wk.skip (m := 4) (k := 8) rfl (by rfl) ?_) | (refine Wk.step (m := 4) (k := 8) (v := _) rfl (by rfl) (fun wv hS => by obtain ⟨s0, s1, s2, s3, s4, s5⟩ := hS; go_simp; try with_reducible rfl) ?_)
    try simp only [Act.put, List.getElem_toArray, List.getElem_cons_succ, List.getElem_cons_zero, List.setIfInBounds_toArray, List.set_cons_zero, List.set_cons_succ]
    first | (refine Wk.skip (m := 3) (k := 9) rfl (by rfl) ?_) | (refine Wk.step (m := 3) (k := 9) (v := _) rfl (by rfl) (fun wv hS => by obtain ⟨s0, s1, s2, s3, s4, s5⟩ := hS; go_simp; try with_reducible rfl) ?_)
    try simp only [Act.put, List.getElem_toArray, List.getElem_cons_succ, List.getElem_cons_zero, List.setIfInBounds_toArray, List.set_cons_zero, List.set_cons_succ]
    refine Wk.call (m := 2) (k := 10) (v := .string P) _ _ rfl (by rfl) (fun wv hS => by obtain ⟨s0, s1, s2, s3, s4, s5⟩ := hS; go_simp; first | done | exact ⟨rfl, rfl⟩ | with_reducible rfl) (fun wv hS => ?_) ?_; · obtain ⟨s0, s1, s2, s3, s4, s5⟩ := hS; refine (specFPath a0 a1 n0 c0 n1 c1 B zs a3 n3 c3 B' ps wv (h.mk (M0.trans s0) hB (.inr (Nat.le_refl _))) (Nat.le_trans hB (M0.trans s0).size) hn0 HZ.out (hp.mk (M0.trans s0) hB' (.inr (Nat.le_refl _))) (Nat.le_trans hB' (M0.trans s0).size) hn HF.out).mono ?_; rintro e w' ⟨he, mm⟩; exact ⟨by rw [he, hP.out], s0.trans mm, mm.cellAt s1, mm.cellAt s2, mm.cellAt s3, mm.cellAt s4, mm.cellAt s5⟩
    try simp only [Act.put, List.getElem_toArray, List.getElem_cons_succ, List.getElem_cons_zero, List.setIfInBounds_toArray, List.set_cons_zero, List.set_cons_succ]
    first | (refine Wk.skip (m := 1) (k := 11) rfl (by rfl) ?_) | (refine Wk.step (m := 1) (k := 11) (v := _) rfl (by rfl) (fun wv hS => by obtain ⟨s0, s1, s2, s3, s4, s5⟩ := hS; go_simp; try with_reducible rfl) ?_)
    try simp only [Act.put, List.getElem_toArray, List.getElem_cons_succ, List.getElem_cons_zero, List.setIfInBounds_toArray, List.set_cons_zero, List.set_cons_succ]
    first | (refine Wk.skip (m := 0) (k := 12) rfl (by rfl) ?_) | (refine Wk.step (m := 0) (k := 12) (v := _) rfl (by rfl) (fun wv hS => by obtain ⟨s0, s1, s2, s3, s4, s5⟩ := hS; go_simp; try with_reducible rfl) ?_)
    try simp only [Act.put, List.getElem_toArray, List.getElem_cons_succ, List.getElem_cons_zero, List.setIfInBounds_toArray, List.set_cons_zero, List.set_cons_succ]
    refine Wk.done fun wE hE => ?_
    clear k0 k1 p0 p3 p8
    obtain ⟨mE, k0, k1, p0, p3, p8⟩ := hE
    go_wp2_with fail
    go_ret
    exact ⟨retT HL.out, M0.trans mE⟩
  have nn3 : (x0 == 3) = false := by simpa using h3
  have HV := Lib.hid (pnT_out h1 h2 h3)
  clear h1 h2 h3
  have lz : ((⟨#[]⟩ : ByteArray)).size ≤ 10 := by decide
  have HL := Lib.hid (show ⟨#[]⟩ ++ ⟨#[32]⟩ ++ tI x8 ++ ⟨#[32]⟩ ++ P = pnT x0 ++ ⟨#[32]⟩ ++ tI x8 ++ ⟨#[32]⟩ ++ P by rw [show pnT x0 = ⟨#[]⟩ from HV.out])
  have ad0 := add_ok (⟨#[]⟩) (⟨#[32]⟩) (p := 10) (q := 1) (lz) (one1 32) (by decide)
  have ad1 := add_ok (⟨#[]⟩ ++ ⟨#[32]⟩) (tI x8) (p := 11) (q := 21) (size_app (p := 10) (q := 1) (lz) (one1 32)) (tI_size h0_x8 h1_x8) (by decide)
  have ad2 := add_ok (⟨#[]⟩ ++ ⟨#[32]⟩ ++ tI x8) (⟨#[32]⟩) (p := 32) (q := 1) (size_app (p := 11) (q := 21) (size_app (p := 10) (q := 1) (lz) (one1 32)) (tI_size h0_x8 h1_x8)) (one1 32) (by decide)
  have ad3 := add_ok (⟨#[]⟩ ++ ⟨#[32]⟩ ++ tI x8 ++ ⟨#[32]⟩) (P) (p := 33) (q := 100000000) (size_app (p := 32) (q := 1) (size_app (p := 11) (q := 21) (size_app (p := 10) (q := 1) (lz) (one1 32)) (tI_size h0_x8 h1_x8)) (one1 32)) (hPs) (by decide)
  go_enter Tryd.func23, Tryd.ntmps23
  go_wp2_with fail
  refine wp_region_wk (fun w' => Mk0 ((w.alloc (Obj.cells #[Value.slice a0 n0 c0, Value.slice a1 n1 c1] 31)).alloc (Obj.cells #[Value.int .i64 x0, Value.int .i64 x1, Value.int .i64 x2, Value.slice a3 n3 c3, Value.int .i64 x4, Value.int .i64 x5, Value.int .i64 x6, Value.int .i64 x7, Value.int .i64 x8, Value.slice a9 n9 c9] 63)) w' ∧ w'.cell? ⟨w.heap.size, 0, none⟩ = some (.slice a0 n0 c0) ∧ w'.cell? ⟨w.heap.size, 1, none⟩ = some (.slice a1 n1 c1) ∧ w'.cell? ⟨w.heap.size + 1, 0, none⟩ = some (.int .i64 x0) ∧ w'.cell? ⟨w.heap.size + 1, 3, none⟩ = some (.slice a3 n3 c3) ∧ w'.cell? ⟨w.heap.size + 1, 8, none⟩ = some (.int .i64 x8)) (by kernel_rfl) (by kernel_rfl) (⟨Mk.drew1 _, k0, k1, p0, p3, p8⟩) ?_
  change Wk _ _ _ _ 13 0 _
  first | (refine Wk.skip (m := 12) (k := 0) rfl (by rfl) ?_) | (refine Wk.step (m := 12) (k := 0) (v := _) rfl (by rfl) (fun wv hS => by obtain ⟨s0, s1, s2, s3, s4, s5⟩ := hS; go_simp; try with_reducible rfl) ?_)
  try simp only [Act.put, List.getElem_toArray, List.getElem_cons_zero, List.setIfInBounds_toArray, List.set_cons_zero, List.set_cons_succ]
  first | (refine Wk.skip (m := 11) (k := 1) rfl (by rfl) ?_) | (refine Wk.step (m := 11) (k := 1) (v := _) rfl (by rfl) (fun wv hS => by obtain ⟨s0, s1, s2, s3, s4, s5⟩ := hS; go_simp; try with_reducible rfl) ?_)
  try simp only [Act.put, List.getElem_toArray, List.getElem_cons_succ, List.getElem_cons_zero, List.setIfInBounds_toArray, List.set_cons_zero, List.set_cons_succ]
  first | (refine Wk.skip (m := 10) (k := 2) rfl (by rfl) ?_) | (refine Wk.step (m := 10) (k := 2) (v := _) rfl (by rfl) (fun wv hS => by obtain ⟨s0, s1, s2, s3, s4, s5⟩ := hS; go_simp; try with_reducible rfl) ?_)
  try simp only [Act.put, List.getElem_toArray, List.getElem_cons_succ, List.getElem_cons_zero, List.setIfInBounds_toArray, List.set_cons_zero, List.set_cons_succ]
  first | (refine Wk.skip (m := 9) (k := 3) rfl (by rfl) ?_) | (refine Wk.step (m := 9) (k := 3) (v := _) rfl (by rfl) (fun wv hS => by obtain ⟨s0, s1, s2, s3, s4, s5⟩ := hS; go_simp; try with_reducible rfl) ?_)
  try simp only [Act.put, List.getElem_toArray, List.getElem_cons_succ, List.getElem_cons_zero, List.setIfInBounds_toArray, List.set_cons_zero, List.set_cons_succ]
  refine Wk.call (m := 8) (k := 4) (v := .string (tI x8)) _ _ rfl (by rfl) (fun wv hS => by obtain ⟨s0, s1, s2, s3, s4, s5⟩ := hS; go_simp; first | done | exact ⟨rfl, rfl⟩ | with_reducible rfl) (fun wv hS => ?_) ?_; · obtain ⟨s0, s1, s2, s3, s4, s5⟩ := hS; refine (specFI x8 h0_x8 h1_x8 wv).mono ?_; rintro e w' ⟨he, mm⟩; exact ⟨he, s0.trans mm, mm.cellAt s1, mm.cellAt s2, mm.cellAt s3, mm.cellAt s4, mm.cellAt s5⟩
  try simp only [Act.put, List.getElem_toArray, List.getElem_cons_succ, List.getElem_cons_zero, List.setIfInBounds_toArray, List.set_cons_zero, List.set_cons_succ]
  first | (refine Wk.skip (m := 7) (k := 5) rfl (by rfl) ?_) | (refine Wk.step (m := 7) (k := 5) (v := _) rfl (by rfl) (fun wv hS => by obtain ⟨s0, s1, s2, s3, s4, s5⟩ := hS; go_simp; try with_reducible rfl) ?_)
  try simp only [Act.put, List.getElem_toArray, List.getElem_cons_succ, List.getElem_cons_zero, List.setIfInBounds_toArray, List.set_cons_zero, List.set_cons_succ]
  first | (refine Wk.skip (m := 6) (k := 6) rfl (by rfl) ?_) | (refine Wk.step (m := 6) (k := 6) (v := _) rfl (by rfl) (fun wv hS => by obtain ⟨s0, s1, s2, s3, s4, s5⟩ := hS; go_simp; try with_reducible rfl) ?_)
  try simp only [Act.put, List.getElem_toArray, List.getElem_cons_succ, List.getElem_cons_zero, List.setIfInBounds_toArray, List.set_cons_zero, List.set_cons_succ]
  first | (refine Wk.skip (m := 5) (k := 7) rfl (by rfl) ?_) | (refine Wk.step (m := 5) (k := 7) (v := _) rfl (by rfl) (fun wv hS => by obtain ⟨s0, s1, s2, s3, s4, s5⟩ := hS; go_simp; try with_reducible rfl) ?_)
  try simp only [Act.put, List.getElem_toArray, List.getElem_cons_succ, List.getElem_cons_zero, List.setIfInBounds_toArray, List.set_cons_zero, List.set_cons_succ]
  first | (refine Wk.skip (m := 4) (k := 8) rfl (by rfl) ?_) | (refine Wk.step (m := 4) (k := 8) (v := _) rfl (by rfl) (fun wv hS => by obtain ⟨s0, s1, s2, s3, s4, s5⟩ := hS; go_simp; try with_reducible rfl) ?_)
  try simp only [Act.put, List.getElem_toArray, List.getElem_cons_succ, List.getElem_cons_zero, List.setIfInBounds_toArray, List.set_cons_zero, List.set_cons_succ]
  first | (refine Wk.skip (m := 3) (k := 9) rfl (by rfl) ?_) | (refine Wk.step (m := 3) (k := 9) (v := _) rfl (by rfl) (fun wv hS => by obtain ⟨s0, s1, s2, s3, s4, s5⟩ := hS; go_simp; try with_reducible rfl) ?_)
  try simp only [Act.put, List.getElem_toArray, List.getElem_cons_succ, List.getElem_cons_zero, List.setIfInBounds_toArray, List.set_cons_zero, List.set_cons_succ]
  refine Wk.call (m := 2) (k := 10) (v := .string P) _ _ rfl (by rfl) (fun wv hS => by obtain ⟨s0, s1, s2, s3, s4, s5⟩ := hS; go_simp; first | done | exact ⟨rfl, rfl⟩ | with_reducible rfl) (fun wv hS => ?_) ?_; · obtain ⟨s0, s1, s2, s3, s4, s5⟩ := hS; refine (specFPath a0 a1 n0 c0 n1 c1 B zs a3 n3 c3 B' ps wv (h.mk (M0.trans s0) hB (.inr (Nat.le_refl _))) (Nat.le_trans hB (M0.trans s0).size) hn0 HZ.out (hp.mk (M0.trans s0) hB' (.inr (Nat.le_refl _))) (Nat.le_trans hB' (M0.trans s0).size) hn HF.out).mono ?_; rintro e w' ⟨he, mm⟩; exact ⟨by rw [he, hP.out], s0.trans mm, mm.cellAt s1, mm.cellAt s2, mm.cellAt s3, mm.cellAt s4, mm.cellAt s5⟩
  try simp only [Act.put, List.getElem_toArray, List.getElem_cons_succ, List.getElem_cons_zero, List.setIfInBounds_toArray, List.set_cons_zero, List.set_cons_succ]
  first | (refine Wk.skip (m := 1) (k := 11) rfl (by rfl) ?_) | (refine Wk.step (m := 1) (k := 11) (v := _) rfl (by rfl) (fun wv hS => by obtain ⟨s0, s1, s2, s3, s4, s5⟩ := hS; go_simp; try with_reducible rfl) ?_)
  try simp only [Act.put, List.getElem_toArray, List.getElem_cons_succ, List.getElem_cons_zero, List.setIfInBounds_toArray, List.set_cons_zero, List.set_cons_succ]
  first | (refine Wk.skip (m := 0) (k := 12) rfl (by rfl) ?_) | (refine Wk.step (m := 0) (k := 12) (v := _) rfl (by rfl) (fun wv hS => by obtain ⟨s0, s1, s2, s3, s4, s5⟩ := hS; go_simp; try with_reducible rfl) ?_)
  try simp only [Act.put, List.getElem_toArray, List.getElem_cons_succ, List.getElem_cons_zero, List.setIfInBounds_toArray, List.set_cons_zero, List.set_cons_succ]
  refine Wk.done fun wE hE => ?_
  clear k0 k1 p0 p3 p8
  obtain ⟨mE, k0, k1, p0, p3, p8⟩ := hE
  go_wp2_with fail
  go_ret
  exact ⟨retT HL.out, M0.trans mE⟩

end Go.Proofs.YthpejolljkbenaaDoor
