
/- FormatTrace of both sides. -/
import Derived.Test.YtgchhkgcdcknlaaDoorFas
import Derived.Test.YtgchhkgcdcknlaaDoorSStep
import Derived.Test.YtgchhkgcdcknlaaDoorInR
import Derived.Test.YtgchhkgcdcknlaaDoorWt
namespace Go.Proofs.YtgchhkgcdcknlaaDoor
open Go Go.ChangeShapes Go.WideShapes Go.ChangeAt Go.RowKit
set_option linter.unusedVariables false
def vnT (k : Int) : ByteArray := if k = 0 then ⟨#[102, 111, 114, 119, 97, 114, 100]⟩ else if k = 1 then ⟨#[100, 101, 108, 105, 118, 101, 114]⟩ else if k = 2 then ⟨#[109, 97, 108, 102, 111, 114, 109, 101, 100]⟩ else if k = 3 then ⟨#[105, 110, 103, 114, 101, 115, 115]⟩ else if k = 4 then ⟨#[109, 97, 99]⟩ else if k = 5 then ⟨#[101, 120, 112, 105, 114, 101, 100]⟩ else if k = 6 then ⟨#[116, 114, 97, 110, 115, 105, 116]⟩ else if k = 7 then ⟨#[108, 105, 110, 107, 100, 111, 119, 110]⟩ else ⟨#[]⟩
theorem vnT_size (k : Int) : (vnT k).size ≤ 9 := by
  unfold vnT
  repeat' split
  all_goals decide
theorem vnT_out {k : Int} (h : k < 0 ∨ 7 < k) : vnT k = ⟨#[]⟩ := by
  unfold vnT
  rw [if_neg (by omega), if_neg (by omega), if_neg (by omega), if_neg (by omega), if_neg (by omega), if_neg (by omega), if_neg (by omega), if_neg (by omega)]
def stT (zs : List TAS) (n0 : Nat) (y : TStep) : ByteArray := tI y.ing ++ ⟨#[62]⟩ ++ asT zs n0 y.nd ++ ⟨#[62]⟩ ++ tI y.eg
def trT (zs : List TAS) (n0 : Nat) (t : ByteArray) (ys : List TStep) : Nat → ByteArray
  | 0 => t
  | k + 1 => trT zs n0 t ys k ++ (⟨#[32]⟩ ++ stT zs n0 (ys.getD k default))
theorem step_in {ys : List TStep} {n q : Nat} (hl : ys.length = n) (hq : q < n) (hz : ∀ y ∈ ys, TStep.fits y) : TStep.fits (ys.getD q default) := by
  refine hz _ ?_
  rw [List.getD_eq_getElem?_getD, List.getElem?_eq_getElem (by omega)]
  exact List.getElem_mem _
theorem stT_size {zs : List TAS} {n0 : Nat} {y : TStep} (hl : zs.length = n0) (hz : ∀ y ∈ zs, TAS.fits y) (hy : TStep.fits y) : (stT zs n0 y).size ≤ 87 :=
  size_app (p := 66) (size_app (p := 65) (size_app (p := 22) (size_app (p := 21) (tI_size (i64_of hy.2.1).1 (i64_of hy.2.1).2) (one1 62)) (asT_size hl hz (i64_of hy.1).1 (i64_of hy.1).2)) (one1 62)) (tI_size (i64_of hy.2.2).1 (i64_of hy.2.2).2)
theorem trT_size {zs : List TAS} {n0 n : Nat} {t : ByteArray} {ys : List TStep} (ht : t.size ≤ 9) (hl : zs.length = n0) (hz : ∀ y ∈ zs, TAS.fits y) (hly : ys.length = n) (hy : ∀ y ∈ ys, TStep.fits y) : ∀ k, k ≤ n → (trT zs n0 t ys k).size ≤ 9 + 88 * k
  | 0, _ => ht
  | k + 1, h => by
    have h1 := trT_size ht hl hz hly hy k (by omega)
    have h2 := stT_size hl hz (step_in hly (show k < n by omega) hy)
    have h3 := size_app (a := ⟨#[32]⟩) (one1 32) h2
    rw [trT, ByteArray.size_append]
    omega
set_option maxRecDepth 100000 in
set_option maxHeartbeats 4000000 in
theorem specVN (c : Int) (w : World) : Calls Tryd.prog 40 #[.int .i64 c] w fun e w' => e = .returned (.string (vnT c)) ∧ Mk0 w w' := by
  by_cases h0 : c = 0
  · subst h0
    go_enter Tryd.func40, Tryd.ntmps40
    go_wp2_with go_in
    all_goals (go_ret; exact ⟨rfl, Mk.of_below (by go_grown)⟩)
  have n0 : (c == 0) = false := by simpa using h0
  by_cases h1 : c = 1
  · subst h1
    go_enter Tryd.func40, Tryd.ntmps40
    go_wp2_with go_in
    all_goals (go_ret; exact ⟨rfl, Mk.of_below (by go_grown)⟩)
  have n1 : (c == 1) = false := by simpa using h1
  by_cases h2 : c = 2
  · subst h2
    go_enter Tryd.func40, Tryd.ntmps40
    go_wp2_with go_in
    all_goals (go_ret; exact ⟨rfl, Mk.of_below (by go_grown)⟩)
  have n2 : (c == 2) = false := by simpa using h2
  by_cases h3 : c = 3
  · subst h3
    go_enter Tryd.func40, Tryd.ntmps40
    go_wp2_with go_in
    all_goals (go_ret; exact ⟨rfl, Mk.of_below (by go_grown)⟩)
  have n3 : (c == 3) = false := by simpa using h3
  by_cases h4 : c = 4
  · subst h4
    go_enter Tryd.func40, Tryd.ntmps40
    go_wp2_with go_in
    all_goals (go_ret; exact ⟨rfl, Mk.of_below (by go_grown)⟩)
  have n4 : (c == 4) = false := by simpa using h4
  by_cases h5 : c = 5
  · subst h5
    go_enter Tryd.func40, Tryd.ntmps40
    go_wp2_with go_in
    all_goals (go_ret; exact ⟨rfl, Mk.of_below (by go_grown)⟩)
  have n5 : (c == 5) = false := by simpa using h5
  by_cases h6 : c = 6
  · subst h6
    go_enter Tryd.func40, Tryd.ntmps40
    go_wp2_with go_in
    all_goals (go_ret; exact ⟨rfl, Mk.of_below (by go_grown)⟩)
  have n6 : (c == 6) = false := by simpa using h6
  by_cases h7 : c = 7
  · subst h7
    go_enter Tryd.func40, Tryd.ntmps40
    go_wp2_with go_in
    all_goals (go_ret; exact ⟨rfl, Mk.of_below (by go_grown)⟩)
  have n7 : (c == 7) = false := by simpa using h7
  have HV := Lib.hid (vnT_out (k := c) (by omega))
  by_cases q : c < 0
  · clear h0 h1 h2 h3 h4 h5 h6 h7
    go_enter Tryd.func40, Tryd.ntmps40
    go_wp2_with go_in
    all_goals (go_ret; exact ⟨retT HV.out.symm, Mk.of_below (by go_grown)⟩)
  · have c0 : 0 ≤ c := by omega
    have c5 : 7 < c := by omega
    clear q h0 h1 h2 h3 h4 h5 h6 h7
    go_enter Tryd.func40, Tryd.ntmps40
    go_wp2_with fail
    refine (specInNo c 0 7 _ (.inr c5)).mono ?_
    rintro e w' ⟨rfl, rfl⟩
    go_wp2_with fail
    go_ret
    exact ⟨retT HV.out.symm, Mk.of_below (by go_grown)⟩

set_option maxRecDepth 100000 in
set_option maxHeartbeats 4000000 in
theorem implVN (c : Int) (w : World) : Calls Tryd.prog 43 #[.int .i64 c] w fun e w' => e = .returned (.string (vnT c)) ∧ Mk0 w w' := by
  by_cases h0 : c = 0
  · subst h0
    go_enter Tryd.func43, Tryd.ntmps43
    go_wp2_with go_in
    all_goals (go_ret; exact ⟨rfl, Mk.of_below (by go_grown)⟩)
  have n0 : (c == 0) = false := by simpa using h0
  by_cases h1 : c = 1
  · subst h1
    go_enter Tryd.func43, Tryd.ntmps43
    go_wp2_with go_in
    all_goals (go_ret; exact ⟨rfl, Mk.of_below (by go_grown)⟩)
  have n1 : (c == 1) = false := by simpa using h1
  by_cases h2 : c = 2
  · subst h2
    go_enter Tryd.func43, Tryd.ntmps43
    go_wp2_with go_in
    all_goals (go_ret; exact ⟨rfl, Mk.of_below (by go_grown)⟩)
  have n2 : (c == 2) = false := by simpa using h2
  by_cases h3 : c = 3
  · subst h3
    go_enter Tryd.func43, Tryd.ntmps43
    go_wp2_with go_in
    all_goals (go_ret; exact ⟨rfl, Mk.of_below (by go_grown)⟩)
  have n3 : (c == 3) = false := by simpa using h3
  by_cases h4 : c = 4
  · subst h4
    go_enter Tryd.func43, Tryd.ntmps43
    go_wp2_with go_in
    all_goals (go_ret; exact ⟨rfl, Mk.of_below (by go_grown)⟩)
  have n4 : (c == 4) = false := by simpa using h4
  by_cases h5 : c = 5
  · subst h5
    go_enter Tryd.func43, Tryd.ntmps43
    go_wp2_with go_in
    all_goals (go_ret; exact ⟨rfl, Mk.of_below (by go_grown)⟩)
  have n5 : (c == 5) = false := by simpa using h5
  by_cases h6 : c = 6
  · subst h6
    go_enter Tryd.func43, Tryd.ntmps43
    go_wp2_with go_in
    all_goals (go_ret; exact ⟨rfl, Mk.of_below (by go_grown)⟩)
  have n6 : (c == 6) = false := by simpa using h6
  by_cases h7 : c = 7
  · subst h7
    go_enter Tryd.func43, Tryd.ntmps43
    go_wp2_with go_in
    all_goals (go_ret; exact ⟨rfl, Mk.of_below (by go_grown)⟩)
  have n7 : (c == 7) = false := by simpa using h7
  have HV := Lib.hid (vnT_out (k := c) (by omega))
  by_cases q : c < 0
  · clear h0 h1 h2 h3 h4 h5 h6 h7
    go_enter Tryd.func43, Tryd.ntmps43
    go_wp2_with go_in
    all_goals (go_ret; exact ⟨retT HV.out.symm, Mk.of_below (by go_grown)⟩)
  · have c0 : 0 ≤ c := by omega
    have c5 : 7 < c := by omega
    clear q h0 h1 h2 h3 h4 h5 h6 h7
    go_enter Tryd.func43, Tryd.ntmps43
    go_wp2_with go_in
    all_goals (go_ret; exact ⟨retT HV.out.symm, Mk.of_below (by go_grown)⟩)

set_option maxRecDepth 100000 in
set_option maxHeartbeats 4000000 in
theorem implArr2 (y : TStep) (w : World) : Calls Tryd.prog 44 #[.agg #[.int .i64 y.nd, .int .i64 y.ing, .int .i64 y.eg]] w fun e w' => e = .returned (.agg #[.int .i64 y.nd, .int .i64 y.ing, .int .i64 y.eg]) ∧ Mk0 w w' := by
  have M := (Mk.alloc w (Obj.cells #[Value.int .i64 y.nd, Value.int .i64 y.ing, Value.int .i64 y.eg] 92)).new (Obj.cells #[Value.int .i64 y.nd, Value.int .i64 y.ing, Value.int .i64 y.eg] 96)
  go_enter Tryd.func44, Tryd.ntmps44
  go_wp2_with fail
  exact bodyPost_ret (v := .agg #[.int .i64 y.nd, .int .i64 y.ing, .int .i64 y.eg]) (by simp [results, Tryd.results44, go_sem]) rfl ⟨rfl, M⟩

set_option maxRecDepth 100000 in
set_option maxHeartbeats 4000000 in
theorem implStF (a0 a1 : Option Addr) (n0 c0 n1 c1 B : Nat) (zs : List TAS) (y : TStep) (w : World) (h : HasAS w B a0 n0 zs) (hB : B ≤ w.heap.size) (hn0 : n0 ≤ 1048576) (hz : ∀ y ∈ zs, TAS.fits y) (hy : TStep.fits y) (htab : Lib.TabIs Tryd.prog w "internal/strconv.uint64pow10" .u64 Lib.pow10Tab) :
    Calls Tryd.prog 45 #[.agg #[.int .i64 y.nd, .int .i64 y.ing, .int .i64 y.eg], .agg #[.slice a0 n0 c0, .slice a1 n1 c1]] w fun e w' => e = .returned (.string (stT zs n0 y)) ∧ Mk0 w w' := by
  have M0 := (Mk.alloc w (Obj.cells #[Value.int .i64 y.nd, Value.int .i64 y.ing, Value.int .i64 y.eg] 96)).new (Obj.cells #[Value.slice a0 n0 c0, Value.slice a1 n1 c1] 46)
  have y0 : ((w.alloc (Obj.cells #[Value.int .i64 y.nd, Value.int .i64 y.ing, Value.int .i64 y.eg] 96)).alloc (Obj.cells #[Value.slice a0 n0 c0, Value.slice a1 n1 c1] 46)).cell? ⟨w.heap.size, 0, none⟩ = some (.int .i64 y.nd) := by simp [go_sem]
  have y1 : ((w.alloc (Obj.cells #[Value.int .i64 y.nd, Value.int .i64 y.ing, Value.int .i64 y.eg] 96)).alloc (Obj.cells #[Value.slice a0 n0 c0, Value.slice a1 n1 c1] 46)).cell? ⟨w.heap.size, 1, none⟩ = some (.int .i64 y.ing) := by simp [go_sem]
  have y2 : ((w.alloc (Obj.cells #[Value.int .i64 y.nd, Value.int .i64 y.ing, Value.int .i64 y.eg] 96)).alloc (Obj.cells #[Value.slice a0 n0 c0, Value.slice a1 n1 c1] 46)).cell? ⟨w.heap.size, 2, none⟩ = some (.int .i64 y.eg) := by simp [go_sem]
  have k0 : ((w.alloc (Obj.cells #[Value.int .i64 y.nd, Value.int .i64 y.ing, Value.int .i64 y.eg] 96)).alloc (Obj.cells #[Value.slice a0 n0 c0, Value.slice a1 n1 c1] 46)).cell? ⟨w.heap.size + 1, 0, none⟩ = some (.slice a0 n0 c0) := by simp [go_sem]
  have k1 : ((w.alloc (Obj.cells #[Value.int .i64 y.nd, Value.int .i64 y.ing, Value.int .i64 y.eg] 96)).alloc (Obj.cells #[Value.slice a0 n0 c0, Value.slice a1 n1 c1] 46)).cell? ⟨w.heap.size + 1, 1, none⟩ = some (.slice a1 n1 c1) := by simp [go_sem]
  have fn := i64_of hy.1
  have fi := i64_of hy.2.1
  have fe := i64_of hy.2.2
  have ad0 := add_ok (tI y.ing) (⟨#[62]⟩) (p := 21) (q := 1) (tI_size fi.1 fi.2) (one1 62) (by decide)
  have ad1 := add_ok (tI y.ing ++ ⟨#[62]⟩) (asT zs n0 y.nd) (p := 22) (q := 43) (size_app (p := 21) (q := 1) (tI_size fi.1 fi.2) (one1 62)) (asT_size h.1 hz fn.1 fn.2) (by decide)
  have ad2 := add_ok (tI y.ing ++ ⟨#[62]⟩ ++ asT zs n0 y.nd) (⟨#[62]⟩) (p := 65) (q := 1) (size_app (p := 22) (q := 43) (size_app (p := 21) (q := 1) (tI_size fi.1 fi.2) (one1 62)) (asT_size h.1 hz fn.1 fn.2)) (one1 62) (by decide)
  have ad3 := add_ok (tI y.ing ++ ⟨#[62]⟩ ++ asT zs n0 y.nd ++ ⟨#[62]⟩) (tI y.eg) (p := 66) (q := 21) (size_app (p := 65) (q := 1) (size_app (p := 22) (q := 43) (size_app (p := 21) (q := 1) (tI_size fi.1 fi.2) (one1 62)) (asT_size h.1 hz fn.1 fn.2)) (one1 62)) (tI_size fe.1 fe.2) (by decide)
  have HZ := Lib.hid hz
  clear hz
  go_enter Tryd.func45, Tryd.ntmps45
  go_wp2_with fail
  refine wp_region_wk (fun w' => Mk0 ((w.alloc (Obj.cells #[Value.int .i64 y.nd, Value.int .i64 y.ing, Value.int .i64 y.eg] 96)).alloc (Obj.cells #[Value.slice a0 n0 c0, Value.slice a1 n1 c1] 46)) w' ∧ w'.cell? ⟨w.heap.size, 0, none⟩ = some (.int .i64 y.nd) ∧ w'.cell? ⟨w.heap.size, 1, none⟩ = some (.int .i64 y.ing) ∧ w'.cell? ⟨w.heap.size, 2, none⟩ = some (.int .i64 y.eg) ∧ w'.cell? ⟨w.heap.size + 1, 0, none⟩ = some (.slice a0 n0 c0) ∧ w'.cell? ⟨w.heap.size + 1, 1, none⟩ = some (.slice a1 n1 c1)) (by kernel_rfl) (by kernel_rfl) (⟨Mk.drew1 _, y0, y1, y2, k0, k1⟩) ?_
  change Wk _ _ _ _ 15 0 _
  first | (refine Wk.skip (m := 14) (k := 0) rfl (by rfl) ?_) | (refine Wk.step (m := 14) (k := 0) (v := _) rfl (by rfl) (fun wv hS => by obtain ⟨s0, s1, s2, s3, s4, s5⟩ := hS; go_simp; try with_reducible rfl) ?_)
  try simp only [Act.put, List.getElem_toArray, List.getElem_cons_zero, List.setIfInBounds_toArray, List.set_cons_zero, List.set_cons_succ]
  first | (refine Wk.skip (m := 13) (k := 1) rfl (by rfl) ?_) | (refine Wk.step (m := 13) (k := 1) (v := _) rfl (by rfl) (fun wv hS => by obtain ⟨s0, s1, s2, s3, s4, s5⟩ := hS; go_simp; try with_reducible rfl) ?_)
  try simp only [Act.put, List.getElem_toArray, List.getElem_cons_succ, List.getElem_cons_zero, List.setIfInBounds_toArray, List.set_cons_zero, List.set_cons_succ]
  refine Wk.call (m := 12) (k := 2) (v := .string (tI y.ing)) _ _ rfl (by rfl) (fun wv hS => by obtain ⟨s0, s1, s2, s3, s4, s5⟩ := hS; go_simp; first | done | exact ⟨rfl, rfl⟩ | with_reducible rfl) (fun wv hS => ?_) ?_; · obtain ⟨s0, s1, s2, s3, s4, s5⟩ := hS; refine (implFI y.ing fi.1 fi.2 wv (tab_mk htab (M0.trans s0))).mono ?_; rintro e w' ⟨he, mm⟩; exact ⟨he, s0.trans mm, mm.cellAt s1, mm.cellAt s2, mm.cellAt s3, mm.cellAt s4, mm.cellAt s5⟩
  try simp only [Act.put, List.getElem_toArray, List.getElem_cons_succ, List.getElem_cons_zero, List.setIfInBounds_toArray, List.set_cons_zero, List.set_cons_succ]
  first | (refine Wk.skip (m := 11) (k := 3) rfl (by rfl) ?_) | (refine Wk.step (m := 11) (k := 3) (v := _) rfl (by rfl) (fun wv hS => by obtain ⟨s0, s1, s2, s3, s4, s5⟩ := hS; go_simp; try with_reducible rfl) ?_)
  try simp only [Act.put, List.getElem_toArray, List.getElem_cons_succ, List.getElem_cons_zero, List.setIfInBounds_toArray, List.set_cons_zero, List.set_cons_succ]
  first | (refine Wk.skip (m := 10) (k := 4) rfl (by rfl) ?_) | (refine Wk.step (m := 10) (k := 4) (v := _) rfl (by rfl) (fun wv hS => by obtain ⟨s0, s1, s2, s3, s4, s5⟩ := hS; go_simp; try with_reducible rfl) ?_)
  try simp only [Act.put, List.getElem_toArray, List.getElem_cons_succ, List.getElem_cons_zero, List.setIfInBounds_toArray, List.set_cons_zero, List.set_cons_succ]
  first | (refine Wk.skip (m := 9) (k := 5) rfl (by rfl) ?_) | (refine Wk.step (m := 9) (k := 5) (v := _) rfl (by rfl) (fun wv hS => by obtain ⟨s0, s1, s2, s3, s4, s5⟩ := hS; go_simp; try with_reducible rfl) ?_)
  try simp only [Act.put, List.getElem_toArray, List.getElem_cons_succ, List.getElem_cons_zero, List.setIfInBounds_toArray, List.set_cons_zero, List.set_cons_succ]
  first | (refine Wk.skip (m := 8) (k := 6) rfl (by rfl) ?_) | (refine Wk.step (m := 8) (k := 6) (v := _) rfl (by rfl) (fun wv hS => by obtain ⟨s0, s1, s2, s3, s4, s5⟩ := hS; go_simp; try with_reducible rfl) ?_)
  try simp only [Act.put, List.getElem_toArray, List.getElem_cons_succ, List.getElem_cons_zero, List.setIfInBounds_toArray, List.set_cons_zero, List.set_cons_succ]
  refine Wk.call (m := 7) (k := 7) (v := .string (asT zs n0 y.nd)) _ _ rfl (by rfl) (fun wv hS => by obtain ⟨s0, s1, s2, s3, s4, s5⟩ := hS; go_simp; first | done | exact ⟨rfl, rfl⟩ | with_reducible rfl) (fun wv hS => ?_) ?_; · obtain ⟨s0, s1, s2, s3, s4, s5⟩ := hS; refine (implFAS a0 a1 n0 c0 n1 c1 B zs y.nd wv (h.mk (M0.trans s0) hB (.inr (Nat.le_refl _))) (Nat.le_trans hB (M0.trans s0).size) hn0 HZ.out fn.1 fn.2 (tab_mk htab (M0.trans s0))).mono ?_; rintro e w' ⟨he, mm⟩; exact ⟨he, s0.trans mm, mm.cellAt s1, mm.cellAt s2, mm.cellAt s3, mm.cellAt s4, mm.cellAt s5⟩
  try simp only [Act.put, List.getElem_toArray, List.getElem_cons_succ, List.getElem_cons_zero, List.setIfInBounds_toArray, List.set_cons_zero, List.set_cons_succ]
  first | (refine Wk.skip (m := 6) (k := 8) rfl (by rfl) ?_) | (refine Wk.step (m := 6) (k := 8) (v := _) rfl (by rfl) (fun wv hS => by obtain ⟨s0, s1, s2, s3, s4, s5⟩ := hS; go_simp; try with_reducible rfl) ?_)
  try simp only [Act.put, List.getElem_toArray, List.getElem_cons_succ, List.getElem_cons_zero, List.setIfInBounds_toArray, List.set_cons_zero, List.set_cons_succ]
  first | (refine Wk.skip (m := 5) (k := 9) rfl (by rfl) ?_) | (refine Wk.step (m := 5) (k := 9) (v := _) rfl (by rfl) (fun wv hS => by obtain ⟨s0, s1, s2, s3, s4, s5⟩ := hS; go_simp; try with_reducible rfl) ?_)
  try simp only [Act.put, List.getElem_toArray, List.getElem_cons_succ, List.getElem_cons_zero, List.setIfInBounds_toArray, List.set_cons_zero, List.set_cons_succ]
  first | (refine Wk.skip (m := 4) (k := 10) rfl (by rfl) ?_) | (refine Wk.step (m := 4) (k := 10) (v := _) rfl (by rfl) (fun wv hS => by obtain ⟨s0, s1, s2, s3, s4, s5⟩ := hS; go_simp; try with_reducible rfl) ?_)
  try simp only [Act.put, List.getElem_toArray, List.getElem_cons_succ, List.getElem_cons_zero, List.setIfInBounds_toArray, List.set_cons_zero, List.set_cons_succ]
  first | (refine Wk.skip (m := 3) (k := 11) rfl (by rfl) ?_) | (refine Wk.step (m := 3) (k := 11) (v := _) rfl (by rfl) (fun wv hS => by obtain ⟨s0, s1, s2, s3, s4, s5⟩ := hS; go_simp; try with_reducible rfl) ?_)
  try simp only [Act.put, List.getElem_toArray, List.getElem_cons_succ, List.getElem_cons_zero, List.setIfInBounds_toArray, List.set_cons_zero, List.set_cons_succ]
  refine Wk.call (m := 2) (k := 12) (v := .string (tI y.eg)) _ _ rfl (by rfl) (fun wv hS => by obtain ⟨s0, s1, s2, s3, s4, s5⟩ := hS; go_simp; first | done | exact ⟨rfl, rfl⟩ | with_reducible rfl) (fun wv hS => ?_) ?_; · obtain ⟨s0, s1, s2, s3, s4, s5⟩ := hS; refine (implFI y.eg fe.1 fe.2 wv (tab_mk htab (M0.trans s0))).mono ?_; rintro e w' ⟨he, mm⟩; exact ⟨he, s0.trans mm, mm.cellAt s1, mm.cellAt s2, mm.cellAt s3, mm.cellAt s4, mm.cellAt s5⟩
  try simp only [Act.put, List.getElem_toArray, List.getElem_cons_succ, List.getElem_cons_zero, List.setIfInBounds_toArray, List.set_cons_zero, List.set_cons_succ]
  first | (refine Wk.skip (m := 1) (k := 13) rfl (by rfl) ?_) | (refine Wk.step (m := 1) (k := 13) (v := _) rfl (by rfl) (fun wv hS => by obtain ⟨s0, s1, s2, s3, s4, s5⟩ := hS; go_simp; try with_reducible rfl) ?_)
  try simp only [Act.put, List.getElem_toArray, List.getElem_cons_succ, List.getElem_cons_zero, List.setIfInBounds_toArray, List.set_cons_zero, List.set_cons_succ]
  first | (refine Wk.skip (m := 0) (k := 14) rfl (by rfl) ?_) | (refine Wk.step (m := 0) (k := 14) (v := _) rfl (by rfl) (fun wv hS => by obtain ⟨s0, s1, s2, s3, s4, s5⟩ := hS; go_simp; try with_reducible rfl) ?_)
  try simp only [Act.put, List.getElem_toArray, List.getElem_cons_succ, List.getElem_cons_zero, List.setIfInBounds_toArray, List.set_cons_zero, List.set_cons_succ]
  refine Wk.done fun wE hE => ?_
  clear y0 y1 y2 k0 k1
  obtain ⟨mE, y0, y1, y2, k0, k1⟩ := hE
  go_wp2_with fail
  go_ret
  exact ⟨rfl, M0.trans mE⟩

set_option maxRecDepth 100000 in
set_option maxHeartbeats 4000000 in
theorem specFTrc (a0 a1 : Option Addr) (n0 c0 n1 c1 B : Nat) (zs : List TAS) (x0 x2 x3 x4 x6 x7 x8 x9 x10 : Int) (a a5 a11 : Option Addr) (n c n5 c5 n11 c11 B' : Nat) (ys : List TStep) (w : World) (h : HasAS w B a0 n0 zs) (hB : B ≤ w.heap.size) (hn0 : n0 ≤ 1048576) (hz : ∀ y ∈ zs, TAS.fits y) (h' : HasStep w B' a n ys) (hB' : B' ≤ w.heap.size) (hn : n ≤ 1048576) (hys : ∀ y ∈ ys, TStep.fits y) :
    Calls Tryd.prog 18 #[.agg #[.slice a0 n0 c0, .slice a1 n1 c1], .agg #[.int .i64 x0, .slice a n c, .int .i64 x2, .int .i64 x3, .int .i64 x4, .slice a5 n5 c5, .int .i64 x6, .int .i64 x7, .int .i64 x8, .int .i64 x9, .int .i64 x10, .slice a11 n11 c11]] w fun e w' => e = .returned (.string (trT zs n0 (vnT x0) ys n)) ∧ Mk0 w w' := by
  have M0 := (Mk.alloc w (Obj.cells #[Value.slice a0 n0 c0, Value.slice a1 n1 c1] 46)).new (Obj.cells #[Value.int .i64 x0, Value.slice a n c, Value.int .i64 x2, Value.int .i64 x3, Value.int .i64 x4, Value.slice a5 n5 c5, Value.int .i64 x6, Value.int .i64 x7, Value.int .i64 x8, Value.int .i64 x9, Value.int .i64 x10, Value.slice a11 n11 c11] 72)
  have k0 : ((w.alloc (Obj.cells #[Value.slice a0 n0 c0, Value.slice a1 n1 c1] 46)).alloc (Obj.cells #[Value.int .i64 x0, Value.slice a n c, Value.int .i64 x2, Value.int .i64 x3, Value.int .i64 x4, Value.slice a5 n5 c5, Value.int .i64 x6, Value.int .i64 x7, Value.int .i64 x8, Value.int .i64 x9, Value.int .i64 x10, Value.slice a11 n11 c11] 72)).cell? ⟨w.heap.size, 0, none⟩ = some (.slice a0 n0 c0) := by simp [go_sem]
  have k1 : ((w.alloc (Obj.cells #[Value.slice a0 n0 c0, Value.slice a1 n1 c1] 46)).alloc (Obj.cells #[Value.int .i64 x0, Value.slice a n c, Value.int .i64 x2, Value.int .i64 x3, Value.int .i64 x4, Value.slice a5 n5 c5, Value.int .i64 x6, Value.int .i64 x7, Value.int .i64 x8, Value.int .i64 x9, Value.int .i64 x10, Value.slice a11 n11 c11] 72)).cell? ⟨w.heap.size, 1, none⟩ = some (.slice a1 n1 c1) := by simp [go_sem]
  have u0 : ((w.alloc (Obj.cells #[Value.slice a0 n0 c0, Value.slice a1 n1 c1] 46)).alloc (Obj.cells #[Value.int .i64 x0, Value.slice a n c, Value.int .i64 x2, Value.int .i64 x3, Value.int .i64 x4, Value.slice a5 n5 c5, Value.int .i64 x6, Value.int .i64 x7, Value.int .i64 x8, Value.int .i64 x9, Value.int .i64 x10, Value.slice a11 n11 c11] 72)).cell? ⟨w.heap.size + 1, 0, none⟩ = some (.int .i64 x0) := by simp [go_sem]
  have u1 : ((w.alloc (Obj.cells #[Value.slice a0 n0 c0, Value.slice a1 n1 c1] 46)).alloc (Obj.cells #[Value.int .i64 x0, Value.slice a n c, Value.int .i64 x2, Value.int .i64 x3, Value.int .i64 x4, Value.slice a5 n5 c5, Value.int .i64 x6, Value.int .i64 x7, Value.int .i64 x8, Value.int .i64 x9, Value.int .i64 x10, Value.slice a11 n11 c11] 72)).cell? ⟨w.heap.size + 1, 1, none⟩ = some (.slice a n c) := by simp [go_sem]
  have HTS := Lib.hid (fun (k : Nat) (hk : k ≤ n) => trT_size (vnT_size x0) h.1 hz h'.1 hys k hk)
  have HST := Lib.hid (fun (k : Nat) (hk : k < n) => step_in h'.1 hk hys)
  have HZ := Lib.hid hz
  clear hz hys
  go_enter Tryd.func18, Tryd.ntmps18
  go_wp2_with fail
  generalize ((w.alloc (Obj.cells #[Value.slice a0 n0 c0, Value.slice a1 n1 c1] 46)).alloc (Obj.cells #[Value.int .i64 x0, Value.slice a n c, Value.int .i64 x2, Value.int .i64 x3, Value.int .i64 x4, Value.slice a5 n5 c5, Value.int .i64 x6, Value.int .i64 x7, Value.int .i64 x8, Value.int .i64 x9, Value.int .i64 x10, Value.slice a11 n11 c11] 72)) = WW at *
  refine (specVN x0 _).mono ?_
  rintro e w2 ⟨rfl, m2⟩
  replace k0 := m2.cellAt k0
  replace k1 := m2.cellAt k1
  replace u0 := m2.cellAt u0
  replace u1 := m2.cellAt u1
  replace M0 := M0.trans m2
  clear m2
  go_wp2_with fail
  go_loopw [5, 6] (fun t i wr => ∃ k : Nat, k ≤ n ∧ i = .int .i64 k ∧ t = .string (trT zs n0 (vnT x0) ys k) ∧ Mk0 w2 wr) (fun _ i _ => n - (intOf i).toNat)
  case atStart => exact ⟨0, Nat.zero_le _, rfl, rfl, Mk.refl _ _ _⟩
  case round =>
    obtain ⟨k, hk, rfl, rfl, hM⟩ := hrel
    replace k0 := hM.cellAt k0
    replace k1 := hM.cellAt k1
    replace u0 := hM.cellAt u0
    replace u1 := hM.cellAt u1
    have hMW := M0.trans hM
    by_cases hlt : k < n
    · obtain ⟨b, off, y, rfl, hb, hx, d0, d1, d2⟩ := HasStep.at _ _ _ _ _ _ (h'.mk hMW hB' (.inr (Nat.le_refl _))) hlt
      have hbr := World.block_lt_of_cell? _ _ d0
      have hbk := World.block_lt_of_cell? _ _ k0
      simp only at hbr hbk
      have hyf : TStep.fits y := by rw [hx.out]; exact HST.out k hlt
      have i1 : (0 : Int) ≤ (k : Int) := by omega
      have i2 : (k : Int) < (n : Int) := by omega
      obtain ⟨T, hT⟩ : ∃ T, Hid (T = trT zs n0 (vnT x0) ys k) := ⟨_, Lib.hid rfl⟩
      have hTs : T.size ≤ 99999999 := by rw [hT.out]; have := HTS.out k hk; omega
      have HN := Lib.hid (show trT zs n0 (vnT x0) ys (k + 1) = T ++ (⟨#[32]⟩ ++ stT zs n0 y) by rw [trT, ← hT.out, hx.out])
      rw [← hT.out]
      have fn := i64_of hyf.1
      have fi := i64_of hyf.2.1
      have fe := i64_of hyf.2.2
      have ad0 := add_ok (T) (⟨#[32]⟩) (p := 99999999) (q := 1) (hTs) (one1 32) (by decide)
      have ad1 := add_ok (T ++ ⟨#[32]⟩) (tI y.ing) (p := 100000000) (q := 21) (size_app (p := 99999999) (q := 1) (hTs) (one1 32)) (tI_size fi.1 fi.2) (by decide)
      have ad2 := add_ok (T ++ ⟨#[32]⟩ ++ tI y.ing) (⟨#[62]⟩) (p := 100000021) (q := 1) (size_app (p := 100000000) (q := 21) (size_app (p := 99999999) (q := 1) (hTs) (one1 32)) (tI_size fi.1 fi.2)) (one1 62) (by decide)
      have ad3 := add_ok (T ++ ⟨#[32]⟩ ++ tI y.ing ++ ⟨#[62]⟩) (asT zs n0 y.nd) (p := 100000022) (q := 43) (size_app (p := 100000021) (q := 1) (size_app (p := 100000000) (q := 21) (size_app (p := 99999999) (q := 1) (hTs) (one1 32)) (tI_size fi.1 fi.2)) (one1 62)) (asT_size h.1 HZ.out fn.1 fn.2) (by decide)
      have ad4 := add_ok (T ++ ⟨#[32]⟩ ++ tI y.ing ++ ⟨#[62]⟩ ++ asT zs n0 y.nd) (⟨#[62]⟩) (p := 100000065) (q := 1) (size_app (p := 100000022) (q := 43) (size_app (p := 100000021) (q := 1) (size_app (p := 100000000) (q := 21) (size_app (p := 99999999) (q := 1) (hTs) (one1 32)) (tI_size fi.1 fi.2)) (one1 62)) (asT_size h.1 HZ.out fn.1 fn.2)) (one1 62) (by decide)
      have ad5 := add_ok (T ++ ⟨#[32]⟩ ++ tI y.ing ++ ⟨#[62]⟩ ++ asT zs n0 y.nd ++ ⟨#[62]⟩) (tI y.eg) (p := 100000066) (q := 21) (size_app (p := 100000065) (q := 1) (size_app (p := 100000022) (q := 43) (size_app (p := 100000021) (q := 1) (size_app (p := 100000000) (q := 21) (size_app (p := 99999999) (q := 1) (hTs) (one1 32)) (tI_size fi.1 fi.2)) (one1 62)) (asT_size h.1 HZ.out fn.1 fn.2)) (one1 62)) (tI_size fe.1 fe.2) (by decide)
      go_wp2_with fail
      refine wp_region_wkt (fun w' => Mk0 wr w' ∧ w'.cell? ⟨w.heap.size, 0, none⟩ = some (.slice a0 n0 c0) ∧ w'.cell? ⟨w.heap.size, 1, none⟩ = some (.slice a1 n1 c1) ∧ w'.cell? ⟨w.heap.size + 1, 1, none⟩ = some (.slice (some ⟨b, off, none⟩) n c) ∧ w'.cell? ⟨b, off + k * 3, none⟩ = some (.int .i64 y.nd) ∧ w'.cell? ⟨b, off + k * 3 + 1, none⟩ = some (.int .i64 y.ing) ∧ w'.cell? ⟨b, off + k * 3 + 2, none⟩ = some (.int .i64 y.eg)) 29 (by kernel_rfl) (by kernel_rfl) (by kernel_rfl) (by decide) (⟨Mk.drew1 _, k0, k1, u1, d0, d1, d2⟩) ?_
      change WkT _ _ _ _ _ 29 0 _
      first | (refine WkT.skip (m := 28) (k := 0) rfl (by rfl) ?_) | (refine WkT.pure (m := 28) (k := 0) (v := _) rfl (by rfl) (fun wv => by go_simp; try with_reducible rfl) ?_) | (refine WkT.step (m := 28) (k := 0) (v := _) rfl (by rfl) (by kernel_rfl) (fun wv hS => by obtain ⟨s0, s1, s2, s3, s4, s5, s6⟩ := hS; go_simp; try with_reducible rfl) ?_)
      try simp only [Act.put, List.getElem_toArray, List.getElem_cons_zero, List.setIfInBounds_toArray, List.set_cons_zero, List.set_cons_succ]
      first | (refine WkT.skip (m := 27) (k := 1) rfl (by rfl) ?_) | (refine WkT.pure (m := 27) (k := 1) (v := _) rfl (by rfl) (fun wv => by go_simp; try with_reducible rfl) ?_) | (refine WkT.step (m := 27) (k := 1) (v := _) rfl (by rfl) (by kernel_rfl) (fun wv hS => by obtain ⟨s0, s1, s2, s3, s4, s5, s6⟩ := hS; go_simp; try with_reducible rfl) ?_)
      try simp only [Act.put, List.getElem_toArray, List.getElem_cons_succ, List.getElem_cons_zero, List.setIfInBounds_toArray, List.set_cons_zero, List.set_cons_succ]
      first | (refine WkT.skip (m := 26) (k := 2) rfl (by rfl) ?_) | (refine WkT.pure (m := 26) (k := 2) (v := _) rfl (by rfl) (fun wv => by go_simp; try with_reducible rfl) ?_) | (refine WkT.step (m := 26) (k := 2) (v := _) rfl (by rfl) (by kernel_rfl) (fun wv hS => by obtain ⟨s0, s1, s2, s3, s4, s5, s6⟩ := hS; go_simp; try with_reducible rfl) ?_)
      try simp only [Act.put, List.getElem_toArray, List.getElem_cons_succ, List.getElem_cons_zero, List.setIfInBounds_toArray, List.set_cons_zero, List.set_cons_succ]
      first | (refine WkT.skip (m := 25) (k := 3) rfl (by rfl) ?_) | (refine WkT.pure (m := 25) (k := 3) (v := _) rfl (by rfl) (fun wv => by go_simp; try with_reducible rfl) ?_) | (refine WkT.step (m := 25) (k := 3) (v := _) rfl (by rfl) (by kernel_rfl) (fun wv hS => by obtain ⟨s0, s1, s2, s3, s4, s5, s6⟩ := hS; go_simp; try with_reducible rfl) ?_)
      try simp only [Act.put, List.getElem_toArray, List.getElem_cons_succ, List.getElem_cons_zero, List.setIfInBounds_toArray, List.set_cons_zero, List.set_cons_succ]
      first | (refine WkT.skip (m := 24) (k := 4) rfl (by rfl) ?_) | (refine WkT.pure (m := 24) (k := 4) (v := _) rfl (by rfl) (fun wv => by go_simp; try with_reducible rfl) ?_) | (refine WkT.step (m := 24) (k := 4) (v := _) rfl (by rfl) (by kernel_rfl) (fun wv hS => by obtain ⟨s0, s1, s2, s3, s4, s5, s6⟩ := hS; go_simp; try with_reducible rfl) ?_)
      try simp only [Act.put, List.getElem_toArray, List.getElem_cons_succ, List.getElem_cons_zero, List.setIfInBounds_toArray, List.set_cons_zero, List.set_cons_succ]
      first | (refine WkT.skip (m := 23) (k := 5) rfl (by rfl) ?_) | (refine WkT.pure (m := 23) (k := 5) (v := _) rfl (by rfl) (fun wv => by go_simp; try with_reducible rfl) ?_) | (refine WkT.step (m := 23) (k := 5) (v := _) rfl (by rfl) (by kernel_rfl) (fun wv hS => by obtain ⟨s0, s1, s2, s3, s4, s5, s6⟩ := hS; go_simp; try with_reducible rfl) ?_)
      try simp only [Act.put, List.getElem_toArray, List.getElem_cons_succ, List.getElem_cons_zero, List.setIfInBounds_toArray, List.set_cons_zero, List.set_cons_succ]
      first | (refine WkT.skip (m := 22) (k := 6) rfl (by rfl) ?_) | (refine WkT.pure (m := 22) (k := 6) (v := _) rfl (by rfl) (fun wv => by go_simp; try with_reducible rfl) ?_) | (refine WkT.step (m := 22) (k := 6) (v := _) rfl (by rfl) (by kernel_rfl) (fun wv hS => by obtain ⟨s0, s1, s2, s3, s4, s5, s6⟩ := hS; go_simp; try with_reducible rfl) ?_)
      try simp only [Act.put, List.getElem_toArray, List.getElem_cons_succ, List.getElem_cons_zero, List.setIfInBounds_toArray, List.set_cons_zero, List.set_cons_succ]
      first | (refine WkT.skip (m := 21) (k := 7) rfl (by rfl) ?_) | (refine WkT.pure (m := 21) (k := 7) (v := _) rfl (by rfl) (fun wv => by go_simp; try with_reducible rfl) ?_) | (refine WkT.step (m := 21) (k := 7) (v := _) rfl (by rfl) (by kernel_rfl) (fun wv hS => by obtain ⟨s0, s1, s2, s3, s4, s5, s6⟩ := hS; go_simp; try with_reducible rfl) ?_)
      try simp only [Act.put, List.getElem_toArray, List.getElem_cons_succ, List.getElem_cons_zero, List.setIfInBounds_toArray, List.set_cons_zero, List.set_cons_succ]
      refine WkT.call (m := 20) (k := 8) (v := .string (tI y.ing)) _ _ rfl (by rfl) (by kernel_rfl) (fun wv hS => by obtain ⟨s0, s1, s2, s3, s4, s5, s6⟩ := hS; go_simp; first | done | exact ⟨rfl, rfl⟩ | with_reducible rfl) (fun wv hS => ?_) ?_; · obtain ⟨s0, s1, s2, s3, s4, s5, s6⟩ := hS; refine (specFI y.ing fi.1 fi.2 wv).mono ?_; rintro e w' ⟨he, mm⟩; exact ⟨he, s0.trans mm, mm.cellAt s1, mm.cellAt s2, mm.cellAt s3, mm.cellAt s4, mm.cellAt s5, mm.cellAt s6⟩
      try simp only [Act.put, List.getElem_toArray, List.getElem_cons_succ, List.getElem_cons_zero, List.setIfInBounds_toArray, List.set_cons_zero, List.set_cons_succ]
      first | (refine WkT.skip (m := 19) (k := 9) rfl (by rfl) ?_) | (refine WkT.pure (m := 19) (k := 9) (v := _) rfl (by rfl) (fun wv => by go_simp; try with_reducible rfl) ?_) | (refine WkT.step (m := 19) (k := 9) (v := _) rfl (by rfl) (by kernel_rfl) (fun wv hS => by obtain ⟨s0, s1, s2, s3, s4, s5, s6⟩ := hS; go_simp; try with_reducible rfl) ?_)
      try simp only [Act.put, List.getElem_toArray, List.getElem_cons_succ, List.getElem_cons_zero, List.setIfInBounds_toArray, List.set_cons_zero, List.set_cons_succ]
      first | (refine WkT.skip (m := 18) (k := 10) rfl (by rfl) ?_) | (refine WkT.pure (m := 18) (k := 10) (v := _) rfl (by rfl) (fun wv => by go_simp; try with_reducible rfl) ?_) | (refine WkT.step (m := 18) (k := 10) (v := _) rfl (by rfl) (by kernel_rfl) (fun wv hS => by obtain ⟨s0, s1, s2, s3, s4, s5, s6⟩ := hS; go_simp; try with_reducible rfl) ?_)
      try simp only [Act.put, List.getElem_toArray, List.getElem_cons_succ, List.getElem_cons_zero, List.setIfInBounds_toArray, List.set_cons_zero, List.set_cons_succ]
      first | (refine WkT.skip (m := 17) (k := 11) rfl (by rfl) ?_) | (refine WkT.pure (m := 17) (k := 11) (v := _) rfl (by rfl) (fun wv => by go_simp; try with_reducible rfl) ?_) | (refine WkT.step (m := 17) (k := 11) (v := _) rfl (by rfl) (by kernel_rfl) (fun wv hS => by obtain ⟨s0, s1, s2, s3, s4, s5, s6⟩ := hS; go_simp; try with_reducible rfl) ?_)
      try simp only [Act.put, List.getElem_toArray, List.getElem_cons_succ, List.getElem_cons_zero, List.setIfInBounds_toArray, List.set_cons_zero, List.set_cons_succ]
      first | (refine WkT.skip (m := 16) (k := 12) rfl (by rfl) ?_) | (refine WkT.pure (m := 16) (k := 12) (v := _) rfl (by rfl) (fun wv => by go_simp; try with_reducible rfl) ?_) | (refine WkT.step (m := 16) (k := 12) (v := _) rfl (by rfl) (by kernel_rfl) (fun wv hS => by obtain ⟨s0, s1, s2, s3, s4, s5, s6⟩ := hS; go_simp; try with_reducible rfl) ?_)
      try simp only [Act.put, List.getElem_toArray, List.getElem_cons_succ, List.getElem_cons_zero, List.setIfInBounds_toArray, List.set_cons_zero, List.set_cons_succ]
      first | (refine WkT.skip (m := 15) (k := 13) rfl (by rfl) ?_) | (refine WkT.pure (m := 15) (k := 13) (v := _) rfl (by rfl) (fun wv => by go_simp; try with_reducible rfl) ?_) | (refine WkT.step (m := 15) (k := 13) (v := _) rfl (by rfl) (by kernel_rfl) (fun wv hS => by obtain ⟨s0, s1, s2, s3, s4, s5, s6⟩ := hS; go_simp; try with_reducible rfl) ?_)
      try simp only [Act.put, List.getElem_toArray, List.getElem_cons_succ, List.getElem_cons_zero, List.setIfInBounds_toArray, List.set_cons_zero, List.set_cons_succ]
      first | (refine WkT.skip (m := 14) (k := 14) rfl (by rfl) ?_) | (refine WkT.pure (m := 14) (k := 14) (v := _) rfl (by rfl) (fun wv => by go_simp; try with_reducible rfl) ?_) | (refine WkT.step (m := 14) (k := 14) (v := _) rfl (by rfl) (by kernel_rfl) (fun wv hS => by obtain ⟨s0, s1, s2, s3, s4, s5, s6⟩ := hS; go_simp; try with_reducible rfl) ?_)
      try simp only [Act.put, List.getElem_toArray, List.getElem_cons_succ, List.getElem_cons_zero, List.setIfInBounds_toArray, List.set_cons_zero, List.set_cons_succ]
      first | (refine WkT.skip (m := 13) (k := 15) rfl (by rfl) ?_) | (refine WkT.pure (m := 13) (k := 15) (v := _) rfl (by rfl) (fun wv => by go_simp; try with_reducible rfl) ?_) | (refine WkT.step (m := 13) (k := 15) (v := _) rfl (by rfl) (by kernel_rfl) (fun wv hS => by obtain ⟨s0, s1, s2, s3, s4, s5, s6⟩ := hS; go_simp; try with_reducible rfl) ?_)
      try simp only [Act.put, List.getElem_toArray, List.getElem_cons_succ, List.getElem_cons_zero, List.setIfInBounds_toArray, List.set_cons_zero, List.set_cons_succ]
      first | (refine WkT.skip (m := 12) (k := 16) rfl (by rfl) ?_) | (refine WkT.pure (m := 12) (k := 16) (v := _) rfl (by rfl) (fun wv => by go_simp; try with_reducible rfl) ?_) | (refine WkT.step (m := 12) (k := 16) (v := _) rfl (by rfl) (by kernel_rfl) (fun wv hS => by obtain ⟨s0, s1, s2, s3, s4, s5, s6⟩ := hS; go_simp; try with_reducible rfl) ?_)
      try simp only [Act.put, List.getElem_toArray, List.getElem_cons_succ, List.getElem_cons_zero, List.setIfInBounds_toArray, List.set_cons_zero, List.set_cons_succ]
      first | (refine WkT.skip (m := 11) (k := 17) rfl (by rfl) ?_) | (refine WkT.pure (m := 11) (k := 17) (v := _) rfl (by rfl) (fun wv => by go_simp; try with_reducible rfl) ?_) | (refine WkT.step (m := 11) (k := 17) (v := _) rfl (by rfl) (by kernel_rfl) (fun wv hS => by obtain ⟨s0, s1, s2, s3, s4, s5, s6⟩ := hS; go_simp; try with_reducible rfl) ?_)
      try simp only [Act.put, List.getElem_toArray, List.getElem_cons_succ, List.getElem_cons_zero, List.setIfInBounds_toArray, List.set_cons_zero, List.set_cons_succ]
      refine WkT.call (m := 10) (k := 18) (v := .string (asT zs n0 y.nd)) _ _ rfl (by rfl) (by kernel_rfl) (fun wv hS => by obtain ⟨s0, s1, s2, s3, s4, s5, s6⟩ := hS; go_simp; first | done | exact ⟨rfl, rfl⟩ | with_reducible rfl) (fun wv hS => ?_) ?_; · obtain ⟨s0, s1, s2, s3, s4, s5, s6⟩ := hS; refine (specFAS a0 a1 n0 c0 n1 c1 B zs y.nd wv (h.mk (hMW.trans s0) hB (.inr (Nat.le_refl _))) (Nat.le_trans hB (hMW.trans s0).size) hn0 HZ.out fn.1 fn.2).mono ?_; rintro e w' ⟨he, mm⟩; exact ⟨he, s0.trans mm, mm.cellAt s1, mm.cellAt s2, mm.cellAt s3, mm.cellAt s4, mm.cellAt s5, mm.cellAt s6⟩
      try simp only [Act.put, List.getElem_toArray, List.getElem_cons_succ, List.getElem_cons_zero, List.setIfInBounds_toArray, List.set_cons_zero, List.set_cons_succ]
      first | (refine WkT.skip (m := 9) (k := 19) rfl (by rfl) ?_) | (refine WkT.pure (m := 9) (k := 19) (v := _) rfl (by rfl) (fun wv => by go_simp; try with_reducible rfl) ?_) | (refine WkT.step (m := 9) (k := 19) (v := _) rfl (by rfl) (by kernel_rfl) (fun wv hS => by obtain ⟨s0, s1, s2, s3, s4, s5, s6⟩ := hS; go_simp; try with_reducible rfl) ?_)
      try simp only [Act.put, List.getElem_toArray, List.getElem_cons_succ, List.getElem_cons_zero, List.setIfInBounds_toArray, List.set_cons_zero, List.set_cons_succ]
      first | (refine WkT.skip (m := 8) (k := 20) rfl (by rfl) ?_) | (refine WkT.pure (m := 8) (k := 20) (v := _) rfl (by rfl) (fun wv => by go_simp; try with_reducible rfl) ?_) | (refine WkT.step (m := 8) (k := 20) (v := _) rfl (by rfl) (by kernel_rfl) (fun wv hS => by obtain ⟨s0, s1, s2, s3, s4, s5, s6⟩ := hS; go_simp; try with_reducible rfl) ?_)
      try simp only [Act.put, List.getElem_toArray, List.getElem_cons_succ, List.getElem_cons_zero, List.setIfInBounds_toArray, List.set_cons_zero, List.set_cons_succ]
      first | (refine WkT.skip (m := 7) (k := 21) rfl (by rfl) ?_) | (refine WkT.pure (m := 7) (k := 21) (v := _) rfl (by rfl) (fun wv => by go_simp; try with_reducible rfl) ?_) | (refine WkT.step (m := 7) (k := 21) (v := _) rfl (by rfl) (by kernel_rfl) (fun wv hS => by obtain ⟨s0, s1, s2, s3, s4, s5, s6⟩ := hS; go_simp; try with_reducible rfl) ?_)
      try simp only [Act.put, List.getElem_toArray, List.getElem_cons_succ, List.getElem_cons_zero, List.setIfInBounds_toArray, List.set_cons_zero, List.set_cons_succ]
      first | (refine WkT.skip (m := 6) (k := 22) rfl (by rfl) ?_) | (refine WkT.pure (m := 6) (k := 22) (v := _) rfl (by rfl) (fun wv => by go_simp; try with_reducible rfl) ?_) | (refine WkT.step (m := 6) (k := 22) (v := _) rfl (by rfl) (by kernel_rfl) (fun wv hS => by obtain ⟨s0, s1, s2, s3, s4, s5, s6⟩ := hS; go_simp; try with_reducible rfl) ?_)
      try simp only [Act.put, List.getElem_toArray, List.getElem_cons_succ, List.getElem_cons_zero, List.setIfInBounds_toArray, List.set_cons_zero, List.set_cons_succ]
      first | (refine WkT.skip (m := 5) (k := 23) rfl (by rfl) ?_) | (refine WkT.pure (m := 5) (k := 23) (v := _) rfl (by rfl) (fun wv => by go_simp; try with_reducible rfl) ?_) | (refine WkT.step (m := 5) (k := 23) (v := _) rfl (by rfl) (by kernel_rfl) (fun wv hS => by obtain ⟨s0, s1, s2, s3, s4, s5, s6⟩ := hS; go_simp; try with_reducible rfl) ?_)
      try simp only [Act.put, List.getElem_toArray, List.getElem_cons_succ, List.getElem_cons_zero, List.setIfInBounds_toArray, List.set_cons_zero, List.set_cons_succ]
      first | (refine WkT.skip (m := 4) (k := 24) rfl (by rfl) ?_) | (refine WkT.pure (m := 4) (k := 24) (v := _) rfl (by rfl) (fun wv => by go_simp; try with_reducible rfl) ?_) | (refine WkT.step (m := 4) (k := 24) (v := _) rfl (by rfl) (by kernel_rfl) (fun wv hS => by obtain ⟨s0, s1, s2, s3, s4, s5, s6⟩ := hS; go_simp; try with_reducible rfl) ?_)
      try simp only [Act.put, List.getElem_toArray, List.getElem_cons_succ, List.getElem_cons_zero, List.setIfInBounds_toArray, List.set_cons_zero, List.set_cons_succ]
      first | (refine WkT.skip (m := 3) (k := 25) rfl (by rfl) ?_) | (refine WkT.pure (m := 3) (k := 25) (v := _) rfl (by rfl) (fun wv => by go_simp; try with_reducible rfl) ?_) | (refine WkT.step (m := 3) (k := 25) (v := _) rfl (by rfl) (by kernel_rfl) (fun wv hS => by obtain ⟨s0, s1, s2, s3, s4, s5, s6⟩ := hS; go_simp; try with_reducible rfl) ?_)
      try simp only [Act.put, List.getElem_toArray, List.getElem_cons_succ, List.getElem_cons_zero, List.setIfInBounds_toArray, List.set_cons_zero, List.set_cons_succ]
      first | (refine WkT.skip (m := 2) (k := 26) rfl (by rfl) ?_) | (refine WkT.pure (m := 2) (k := 26) (v := _) rfl (by rfl) (fun wv => by go_simp; try with_reducible rfl) ?_) | (refine WkT.step (m := 2) (k := 26) (v := _) rfl (by rfl) (by kernel_rfl) (fun wv hS => by obtain ⟨s0, s1, s2, s3, s4, s5, s6⟩ := hS; go_simp; try with_reducible rfl) ?_)
      try simp only [Act.put, List.getElem_toArray, List.getElem_cons_succ, List.getElem_cons_zero, List.setIfInBounds_toArray, List.set_cons_zero, List.set_cons_succ]
      refine WkT.call (m := 1) (k := 27) (v := .string (tI y.eg)) _ _ rfl (by rfl) (by kernel_rfl) (fun wv hS => by obtain ⟨s0, s1, s2, s3, s4, s5, s6⟩ := hS; go_simp; first | done | exact ⟨rfl, rfl⟩ | with_reducible rfl) (fun wv hS => ?_) ?_; · obtain ⟨s0, s1, s2, s3, s4, s5, s6⟩ := hS; refine (specFI y.eg fe.1 fe.2 wv).mono ?_; rintro e w' ⟨he, mm⟩; exact ⟨he, s0.trans mm, mm.cellAt s1, mm.cellAt s2, mm.cellAt s3, mm.cellAt s4, mm.cellAt s5, mm.cellAt s6⟩
      try simp only [Act.put, List.getElem_toArray, List.getElem_cons_succ, List.getElem_cons_zero, List.setIfInBounds_toArray, List.set_cons_zero, List.set_cons_succ]
      first | (refine WkT.skip (m := 0) (k := 28) rfl (by rfl) ?_) | (refine WkT.pure (m := 0) (k := 28) (v := _) rfl (by rfl) (fun wv => by go_simp; try with_reducible rfl) ?_) | (refine WkT.step (m := 0) (k := 28) (v := _) rfl (by rfl) (by kernel_rfl) (fun wv hS => by obtain ⟨s0, s1, s2, s3, s4, s5, s6⟩ := hS; go_simp; try with_reducible rfl) ?_)
      try simp only [Act.put, List.getElem_toArray, List.getElem_cons_succ, List.getElem_cons_zero, List.setIfInBounds_toArray, List.set_cons_zero, List.set_cons_succ]
      refine WkT.done fun wE hE => ?_
      clear k0 k1 u1 d0 d1 d2
      obtain ⟨mE, k0, k1, u1, d0, d1, d2⟩ := hE
      simp only [List.drop_succ_cons, List.drop_zero]
      go_wp2_with fail
      simp only [noPan]
      go_wp2_with fail
      go_roundw
      case rel => exact ⟨k + 1, by omega, by go_num, by rw [HN.out]; unfold stT; simp only [ByteArray.append_assoc], hM.trans mE⟩
      case measure => simp [intOf]; omega
    · obtain rfl : k = n := by omega
      go_wp2_with fail
      go_ret
      exact ⟨rfl, hMW⟩

set_option maxRecDepth 100000 in
set_option maxHeartbeats 4000000 in
theorem implFTrc (a0 a1 : Option Addr) (n0 c0 n1 c1 B : Nat) (zs : List TAS) (x0 x2 x3 x4 x6 x7 x8 x9 x10 : Int) (a a5 a11 : Option Addr) (n c n5 c5 n11 c11 B' : Nat) (ys : List TStep) (w : World) (h : HasAS w B a0 n0 zs) (hB : B ≤ w.heap.size) (hn0 : n0 ≤ 1048576) (hz : ∀ y ∈ zs, TAS.fits y) (h' : HasStep w B' a n ys) (hB' : B' ≤ w.heap.size) (hn : n ≤ 1048576) (hys : ∀ y ∈ ys, TStep.fits y) (htab : Lib.TabIs Tryd.prog w "internal/strconv.uint64pow10" .u64 Lib.pow10Tab) :
    Calls Tryd.prog 20 #[.agg #[.slice a0 n0 c0, .slice a1 n1 c1], .agg #[.int .i64 x0, .slice a n c, .int .i64 x2, .int .i64 x3, .int .i64 x4, .slice a5 n5 c5, .int .i64 x6, .int .i64 x7, .int .i64 x8, .int .i64 x9, .int .i64 x10, .slice a11 n11 c11]] w fun e w' => e = .returned (.string (trT zs n0 (vnT x0) ys n)) ∧ Mk0 w w' := by
  have M0 := (Mk.alloc w (Obj.cells #[Value.slice a0 n0 c0, Value.slice a1 n1 c1] 46)).new (Obj.cells #[Value.int .i64 x0, Value.slice a n c, Value.int .i64 x2, Value.int .i64 x3, Value.int .i64 x4, Value.slice a5 n5 c5, Value.int .i64 x6, Value.int .i64 x7, Value.int .i64 x8, Value.int .i64 x9, Value.int .i64 x10, Value.slice a11 n11 c11] 72)
  have k0 : ((w.alloc (Obj.cells #[Value.slice a0 n0 c0, Value.slice a1 n1 c1] 46)).alloc (Obj.cells #[Value.int .i64 x0, Value.slice a n c, Value.int .i64 x2, Value.int .i64 x3, Value.int .i64 x4, Value.slice a5 n5 c5, Value.int .i64 x6, Value.int .i64 x7, Value.int .i64 x8, Value.int .i64 x9, Value.int .i64 x10, Value.slice a11 n11 c11] 72)).cell? ⟨w.heap.size, 0, none⟩ = some (.slice a0 n0 c0) := by simp [go_sem]
  have k1 : ((w.alloc (Obj.cells #[Value.slice a0 n0 c0, Value.slice a1 n1 c1] 46)).alloc (Obj.cells #[Value.int .i64 x0, Value.slice a n c, Value.int .i64 x2, Value.int .i64 x3, Value.int .i64 x4, Value.slice a5 n5 c5, Value.int .i64 x6, Value.int .i64 x7, Value.int .i64 x8, Value.int .i64 x9, Value.int .i64 x10, Value.slice a11 n11 c11] 72)).cell? ⟨w.heap.size, 1, none⟩ = some (.slice a1 n1 c1) := by simp [go_sem]
  have u0 : ((w.alloc (Obj.cells #[Value.slice a0 n0 c0, Value.slice a1 n1 c1] 46)).alloc (Obj.cells #[Value.int .i64 x0, Value.slice a n c, Value.int .i64 x2, Value.int .i64 x3, Value.int .i64 x4, Value.slice a5 n5 c5, Value.int .i64 x6, Value.int .i64 x7, Value.int .i64 x8, Value.int .i64 x9, Value.int .i64 x10, Value.slice a11 n11 c11] 72)).cell? ⟨w.heap.size + 1, 0, none⟩ = some (.int .i64 x0) := by simp [go_sem]
  have u1 : ((w.alloc (Obj.cells #[Value.slice a0 n0 c0, Value.slice a1 n1 c1] 46)).alloc (Obj.cells #[Value.int .i64 x0, Value.slice a n c, Value.int .i64 x2, Value.int .i64 x3, Value.int .i64 x4, Value.slice a5 n5 c5, Value.int .i64 x6, Value.int .i64 x7, Value.int .i64 x8, Value.int .i64 x9, Value.int .i64 x10, Value.slice a11 n11 c11] 72)).cell? ⟨w.heap.size + 1, 1, none⟩ = some (.slice a n c) := by simp [go_sem]
  have HTS := Lib.hid (fun (k : Nat) (hk : k ≤ n) => trT_size (vnT_size x0) h.1 hz h'.1 hys k hk)
  have HST := Lib.hid (fun (k : Nat) (hk : k < n) => step_in h'.1 hk hys)
  have HZ := Lib.hid hz
  clear hz hys
  go_enter Tryd.func20, Tryd.ntmps20
  go_wp2_with fail
  generalize ((w.alloc (Obj.cells #[Value.slice a0 n0 c0, Value.slice a1 n1 c1] 46)).alloc (Obj.cells #[Value.int .i64 x0, Value.slice a n c, Value.int .i64 x2, Value.int .i64 x3, Value.int .i64 x4, Value.slice a5 n5 c5, Value.int .i64 x6, Value.int .i64 x7, Value.int .i64 x8, Value.int .i64 x9, Value.int .i64 x10, Value.slice a11 n11 c11] 72)) = WW at *
  refine (implVN x0 _).mono ?_
  rintro e w2 ⟨rfl, m2⟩
  replace k0 := m2.cellAt k0
  replace k1 := m2.cellAt k1
  replace u0 := m2.cellAt u0
  replace u1 := m2.cellAt u1
  replace M0 := M0.trans m2
  clear m2
  go_wp2_with fail
  go_loopw [5, 14] (fun t i wr => ∃ k : Nat, k ≤ n ∧ i = .int .i64 k ∧ t = .string (trT zs n0 (vnT x0) ys k) ∧ Mk0 w2 wr) (fun _ i _ => n - (intOf i).toNat)
  case atStart => exact ⟨0, Nat.zero_le _, rfl, rfl, Mk.refl _ _ _⟩
  case round =>
    obtain ⟨k, hk, rfl, rfl, hM⟩ := hrel
    replace k0 := hM.cellAt k0
    replace k1 := hM.cellAt k1
    replace u0 := hM.cellAt u0
    replace u1 := hM.cellAt u1
    have hMW := M0.trans hM
    by_cases hlt : k < n
    · obtain ⟨b, off, y, rfl, hb, hx, d0, d1, d2⟩ := HasStep.at _ _ _ _ _ _ (h'.mk hMW hB' (.inr (Nat.le_refl _))) hlt
      have hbr := World.block_lt_of_cell? _ _ d0
      have hbk := World.block_lt_of_cell? _ _ k0
      simp only at hbr hbk
      have hyf : TStep.fits y := by rw [hx.out]; exact HST.out k hlt
      have i1 : (0 : Int) ≤ (k : Int) := by omega
      have i2 : (k : Int) < (n : Int) := by omega
      obtain ⟨T, hT⟩ : ∃ T, Hid (T = trT zs n0 (vnT x0) ys k) := ⟨_, Lib.hid rfl⟩
      have hTs : T.size ≤ 99999999 := by rw [hT.out]; have := HTS.out k hk; omega
      have HN := Lib.hid (show trT zs n0 (vnT x0) ys (k + 1) = T ++ (⟨#[32]⟩ ++ stT zs n0 y) by rw [trT, ← hT.out, hx.out])
      rw [← hT.out]
      have ad0 := add_ok ⟨#[32]⟩ (stT zs n0 y) (one1 32) (stT_size h.1 HZ.out hyf) (by decide)
      have ad1 := add_ok T (⟨#[32]⟩ ++ stT zs n0 y) hTs (size_app (one1 32) (stT_size h.1 HZ.out hyf)) (by decide)
      have MX := Mk.alloc wr (Obj.cells #[Value.int .i64 y.nd, Value.int .i64 y.ing, Value.int .i64 y.eg] 92)
      have q : ∀ j, j < 3 → True := fun _ _ => trivial
      have y0 : (wr.alloc (Obj.cells #[Value.int .i64 y.nd, Value.int .i64 y.ing, Value.int .i64 y.eg] 92)).cell? ⟨wr.heap.size, 0, none⟩ = some (.int .i64 y.nd) := by simp [go_sem]
      have y1 : (wr.alloc (Obj.cells #[Value.int .i64 y.nd, Value.int .i64 y.ing, Value.int .i64 y.eg] 92)).cell? ⟨wr.heap.size, 1, none⟩ = some (.int .i64 y.ing) := by simp [go_sem]
      have y2 : (wr.alloc (Obj.cells #[Value.int .i64 y.nd, Value.int .i64 y.ing, Value.int .i64 y.eg] 92)).cell? ⟨wr.heap.size, 2, none⟩ = some (.int .i64 y.eg) := by simp [go_sem]
      clear q
      replace k0 := MX.cellAt k0
      replace k1 := MX.cellAt k1
      replace u0 := MX.cellAt u0
      replace u1 := MX.cellAt u1
      have MB := hMW.trans MX
      go_wp2_with fail
      refine wp_region_wkt (fun w' => Mk0 (wr.alloc (Obj.cells #[Value.int .i64 y.nd, Value.int .i64 y.ing, Value.int .i64 y.eg] 92)) w' ∧ w'.cell? ⟨w.heap.size, 0, none⟩ = some (.slice a0 n0 c0) ∧ w'.cell? ⟨w.heap.size, 1, none⟩ = some (.slice a1 n1 c1) ∧ w'.cell? ⟨wr.heap.size, 0, none⟩ = some (.int .i64 y.nd) ∧ w'.cell? ⟨wr.heap.size, 1, none⟩ = some (.int .i64 y.ing) ∧ w'.cell? ⟨wr.heap.size, 2, none⟩ = some (.int .i64 y.eg)) 7 (by kernel_rfl) (by kernel_rfl) (by kernel_rfl) (by decide) (⟨Mk.drew1 _, k0, k1, y0, y1, y2⟩) ?_
      change WkT _ _ _ _ _ 7 0 _
      first | (refine WkT.skip (m := 6) (k := 0) rfl (by rfl) ?_) | (refine WkT.pure (m := 6) (k := 0) (v := _) rfl (by rfl) (fun wv => by go_simp; try with_reducible rfl) ?_) | (refine WkT.step (m := 6) (k := 0) (v := _) rfl (by rfl) (by kernel_rfl) (fun wv hS => by obtain ⟨s0, s1, s2, s3, s4, s5⟩ := hS; go_simp; try with_reducible rfl) ?_)
      try simp only [Act.put, List.getElem_toArray, List.getElem_cons_zero, List.setIfInBounds_toArray, List.set_cons_zero, List.set_cons_succ]
      first | (refine WkT.skip (m := 5) (k := 1) rfl (by rfl) ?_) | (refine WkT.pure (m := 5) (k := 1) (v := _) rfl (by rfl) (fun wv => by go_simp; try with_reducible rfl) ?_) | (refine WkT.step (m := 5) (k := 1) (v := _) rfl (by rfl) (by kernel_rfl) (fun wv hS => by obtain ⟨s0, s1, s2, s3, s4, s5⟩ := hS; go_simp; try with_reducible rfl) ?_)
      try simp only [Act.put, List.getElem_toArray, List.getElem_cons_succ, List.getElem_cons_zero, List.setIfInBounds_toArray, List.set_cons_zero, List.set_cons_succ]
      refine WkT.call (m := 4) (k := 2) (v := .agg #[.int .i64 y.nd, .int .i64 y.ing, .int .i64 y.eg]) _ _ rfl (by rfl) (by kernel_rfl) (fun wv hS => by obtain ⟨s0, s1, s2, s3, s4, s5⟩ := hS; go_simp; first | done | exact ⟨rfl, rfl⟩ | with_reducible rfl) (fun wv hS => ?_) ?_; · obtain ⟨s0, s1, s2, s3, s4, s5⟩ := hS; refine (implArr2 y wv).mono ?_; rintro e w' ⟨he, mm⟩; exact ⟨he, s0.trans mm, mm.cellAt s1, mm.cellAt s2, mm.cellAt s3, mm.cellAt s4, mm.cellAt s5⟩
      try simp only [Act.put, List.getElem_toArray, List.getElem_cons_succ, List.getElem_cons_zero, List.setIfInBounds_toArray, List.set_cons_zero, List.set_cons_succ]
      first | (refine WkT.skip (m := 3) (k := 3) rfl (by rfl) ?_) | (refine WkT.pure (m := 3) (k := 3) (v := _) rfl (by rfl) (fun wv => by go_simp; try with_reducible rfl) ?_) | (refine WkT.step (m := 3) (k := 3) (v := _) rfl (by rfl) (by kernel_rfl) (fun wv hS => by obtain ⟨s0, s1, s2, s3, s4, s5⟩ := hS; go_simp; try with_reducible rfl) ?_)
      try simp only [Act.put, List.getElem_toArray, List.getElem_cons_succ, List.getElem_cons_zero, List.setIfInBounds_toArray, List.set_cons_zero, List.set_cons_succ]
      refine WkT.call (m := 2) (k := 4) (v := .string (stT zs n0 y)) _ _ rfl (by rfl) (by kernel_rfl) (fun wv hS => by obtain ⟨s0, s1, s2, s3, s4, s5⟩ := hS; go_simp; first | done | exact ⟨rfl, rfl⟩ | with_reducible rfl) (fun wv hS => ?_) ?_; · obtain ⟨s0, s1, s2, s3, s4, s5⟩ := hS; refine (implStF a0 a1 n0 c0 n1 c1 B zs y wv (h.mk (MB.trans s0) hB (.inr (Nat.le_refl _))) (Nat.le_trans hB (MB.trans s0).size) hn0 HZ.out hyf (tab_mk htab (MB.trans s0))).mono ?_; rintro e w' ⟨he, mm⟩; exact ⟨he, s0.trans mm, mm.cellAt s1, mm.cellAt s2, mm.cellAt s3, mm.cellAt s4, mm.cellAt s5⟩
      try simp only [Act.put, List.getElem_toArray, List.getElem_cons_succ, List.getElem_cons_zero, List.setIfInBounds_toArray, List.set_cons_zero, List.set_cons_succ]
      first | (refine WkT.skip (m := 1) (k := 5) rfl (by rfl) ?_) | (refine WkT.pure (m := 1) (k := 5) (v := _) rfl (by rfl) (fun wv => by go_simp; try with_reducible rfl) ?_) | (refine WkT.step (m := 1) (k := 5) (v := _) rfl (by rfl) (by kernel_rfl) (fun wv hS => by obtain ⟨s0, s1, s2, s3, s4, s5⟩ := hS; go_simp; try with_reducible rfl) ?_)
      try simp only [Act.put, List.getElem_toArray, List.getElem_cons_succ, List.getElem_cons_zero, List.setIfInBounds_toArray, List.set_cons_zero, List.set_cons_succ]
      first | (refine WkT.skip (m := 0) (k := 6) rfl (by rfl) ?_) | (refine WkT.pure (m := 0) (k := 6) (v := _) rfl (by rfl) (fun wv => by go_simp; try with_reducible rfl) ?_) | (refine WkT.step (m := 0) (k := 6) (v := _) rfl (by rfl) (by kernel_rfl) (fun wv hS => by obtain ⟨s0, s1, s2, s3, s4, s5⟩ := hS; go_simp; try with_reducible rfl) ?_)
      try simp only [Act.put, List.getElem_toArray, List.getElem_cons_succ, List.getElem_cons_zero, List.setIfInBounds_toArray, List.set_cons_zero, List.set_cons_succ]
      refine WkT.done fun wE hE => ?_
      clear k0 k1 y0 y1 y2
      obtain ⟨mE, k0, k1, y0, y1, y2⟩ := hE
      simp only [List.drop_succ_cons, List.drop_zero]
      go_wp2_with fail
      simp only [noPan]
      go_wp2_with fail
      go_roundw
      case rel => exact ⟨k + 1, by omega, by go_num, by rw [HN.out], (hM.trans MX).trans mE⟩
      case measure => simp [intOf]; omega
    · obtain rfl : k = n := by omega
      go_wp2_with fail
      go_ret
      exact ⟨rfl, hMW⟩

end Go.Proofs.YtgchhkgcdcknlaaDoor
