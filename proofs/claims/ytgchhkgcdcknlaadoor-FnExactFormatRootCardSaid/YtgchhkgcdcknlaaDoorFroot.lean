
/- FormatRoot of both sides. -/
import Derived.Test.YtgchhkgcdcknlaaDoorFas
import Derived.Test.YtgchhkgcdcknlaaDoorElSpec
namespace Go.Proofs.YtgchhkgcdcknlaaDoor
open Go Go.ChangeShapes Go.WideShapes Go.ChangeAt Go.RowKit
set_option linter.unusedVariables false
def szV (s : Int) : Int := ((elN s 16).length : Nat)
theorem szV_bd (s : Int) : -9223372036854775808 ≤ szV s ∧ szV s ≤ 9223372036854775807 := by have := elN_len s 16; unfold szV; omega
def rootT (i v q s : Int) : ByteArray := tI i ++ ⟨#[46]⟩ ++ tI v ++ ⟨#[32]⟩ ++ tI q ++ ⟨#[47]⟩ ++ tI (szV s)
set_option maxRecDepth 100000 in
set_option maxHeartbeats 4000000 in
theorem specFRoot (x0 x1 x2 x3 x4 x5 : Int) (a6 : Option Addr) (n6 c6 : Nat) (w : World) (h0_x0 : -9223372036854775808 ≤ x0) (h1_x0 : x0 ≤ 9223372036854775807) (h0_x1 : -9223372036854775808 ≤ x1) (h1_x1 : x1 ≤ 9223372036854775807) (h0_x5 : -9223372036854775808 ≤ x5) (h1_x5 : x5 ≤ 9223372036854775807) :
    Calls Tryd.prog 7 #[.agg #[.int .i64 x0, .int .i64 x1, .int .i64 x2, .int .i64 x3, .int .i64 x4, .int .i64 x5, .slice a6 n6 c6]] w fun e w' => e = .returned (.string (rootT x0 x1 x5 x4)) ∧ Mk0 w w' := by
  have M0 := Mk.alloc w (Obj.cells #[Value.int .i64 x0, Value.int .i64 x1, Value.int .i64 x2, Value.int .i64 x3, Value.int .i64 x4, Value.int .i64 x5, Value.slice a6 n6 c6] 29)
  have k0 : (w.alloc (Obj.cells #[Value.int .i64 x0, Value.int .i64 x1, Value.int .i64 x2, Value.int .i64 x3, Value.int .i64 x4, Value.int .i64 x5, Value.slice a6 n6 c6] 29)).cell? ⟨w.heap.size, 0, none⟩ = some (.int .i64 x0) := by simp [go_sem]
  have k1 : (w.alloc (Obj.cells #[Value.int .i64 x0, Value.int .i64 x1, Value.int .i64 x2, Value.int .i64 x3, Value.int .i64 x4, Value.int .i64 x5, Value.slice a6 n6 c6] 29)).cell? ⟨w.heap.size, 1, none⟩ = some (.int .i64 x1) := by simp [go_sem]
  have k4 : (w.alloc (Obj.cells #[Value.int .i64 x0, Value.int .i64 x1, Value.int .i64 x2, Value.int .i64 x3, Value.int .i64 x4, Value.int .i64 x5, Value.slice a6 n6 c6] 29)).cell? ⟨w.heap.size, 4, none⟩ = some (.int .i64 x4) := by simp [go_sem]
  have k5 : (w.alloc (Obj.cells #[Value.int .i64 x0, Value.int .i64 x1, Value.int .i64 x2, Value.int .i64 x3, Value.int .i64 x4, Value.int .i64 x5, Value.slice a6 n6 c6] 29)).cell? ⟨w.heap.size, 5, none⟩ = some (.int .i64 x5) := by simp [go_sem]
  obtain ⟨S, hS⟩ : ∃ S, Hid (szV x4 = S) := ⟨_, Lib.hid rfl⟩
  obtain ⟨h0_S, h1_S⟩ : -9223372036854775808 ≤ S ∧ S ≤ 9223372036854775807 := hS.out ▸ szV_bd x4
  unfold rootT
  rw [hS.out]
  have ad0 := add_ok (tI x0) (⟨#[46]⟩) (p := 21) (q := 1) (tI_size h0_x0 h1_x0) (one1 46) (by decide)
  have ad1 := add_ok (tI x0 ++ ⟨#[46]⟩) (tI x1) (p := 22) (q := 21) (size_app (p := 21) (q := 1) (tI_size h0_x0 h1_x0) (one1 46)) (tI_size h0_x1 h1_x1) (by decide)
  have ad2 := add_ok (tI x0 ++ ⟨#[46]⟩ ++ tI x1) (⟨#[32]⟩) (p := 43) (q := 1) (size_app (p := 22) (q := 21) (size_app (p := 21) (q := 1) (tI_size h0_x0 h1_x0) (one1 46)) (tI_size h0_x1 h1_x1)) (one1 32) (by decide)
  have ad3 := add_ok (tI x0 ++ ⟨#[46]⟩ ++ tI x1 ++ ⟨#[32]⟩) (tI x5) (p := 44) (q := 21) (size_app (p := 43) (q := 1) (size_app (p := 22) (q := 21) (size_app (p := 21) (q := 1) (tI_size h0_x0 h1_x0) (one1 46)) (tI_size h0_x1 h1_x1)) (one1 32)) (tI_size h0_x5 h1_x5) (by decide)
  have ad4 := add_ok (tI x0 ++ ⟨#[46]⟩ ++ tI x1 ++ ⟨#[32]⟩ ++ tI x5) (⟨#[47]⟩) (p := 65) (q := 1) (size_app (p := 44) (q := 21) (size_app (p := 43) (q := 1) (size_app (p := 22) (q := 21) (size_app (p := 21) (q := 1) (tI_size h0_x0 h1_x0) (one1 46)) (tI_size h0_x1 h1_x1)) (one1 32)) (tI_size h0_x5 h1_x5)) (one1 47) (by decide)
  have ad5 := add_ok (tI x0 ++ ⟨#[46]⟩ ++ tI x1 ++ ⟨#[32]⟩ ++ tI x5 ++ ⟨#[47]⟩) (tI S) (p := 66) (q := 21) (size_app (p := 65) (q := 1) (size_app (p := 44) (q := 21) (size_app (p := 43) (q := 1) (size_app (p := 22) (q := 21) (size_app (p := 21) (q := 1) (tI_size h0_x0 h1_x0) (one1 46)) (tI_size h0_x1 h1_x1)) (one1 32)) (tI_size h0_x5 h1_x5)) (one1 47)) (tI_size h0_S h1_S) (by decide)
  go_enter Tryd.func7, Tryd.ntmps7
  go_wp2_with fail
  refine wp_region_wk (fun w' => Mk0 (w.alloc (Obj.cells #[Value.int .i64 x0, Value.int .i64 x1, Value.int .i64 x2, Value.int .i64 x3, Value.int .i64 x4, Value.int .i64 x5, Value.slice a6 n6 c6] 29)) w' ∧ w'.cell? ⟨w.heap.size, 0, none⟩ = some (.int .i64 x0) ∧ w'.cell? ⟨w.heap.size, 1, none⟩ = some (.int .i64 x1) ∧ w'.cell? ⟨w.heap.size, 4, none⟩ = some (.int .i64 x4) ∧ w'.cell? ⟨w.heap.size, 5, none⟩ = some (.int .i64 x5)) (by kernel_rfl) (by kernel_rfl) (⟨Mk.drew1 _, k0, k1, k4, k5⟩) ?_
  change Wk _ _ _ _ 20 0 _
  first | (refine Wk.skip (m := 19) (k := 0) rfl (by rfl) ?_) | (refine Wk.step (m := 19) (k := 0) (v := _) rfl (by rfl) (fun wv hS => by obtain ⟨s0, s1, s2, s3, s4⟩ := hS; go_simp; try with_reducible rfl) ?_)
  try simp only [Act.put, List.getElem_toArray, List.getElem_cons_zero, List.setIfInBounds_toArray, List.set_cons_zero, List.set_cons_succ]
  first | (refine Wk.skip (m := 18) (k := 1) rfl (by rfl) ?_) | (refine Wk.step (m := 18) (k := 1) (v := _) rfl (by rfl) (fun wv hS => by obtain ⟨s0, s1, s2, s3, s4⟩ := hS; go_simp; try with_reducible rfl) ?_)
  try simp only [Act.put, List.getElem_toArray, List.getElem_cons_succ, List.getElem_cons_zero, List.setIfInBounds_toArray, List.set_cons_zero, List.set_cons_succ]
  refine Wk.call (m := 17) (k := 2) (v := .string (tI x0)) _ _ rfl (by rfl) (fun wv hS => by obtain ⟨s0, s1, s2, s3, s4⟩ := hS; go_simp; first | done | exact ⟨rfl, rfl⟩ | with_reducible rfl) (fun wv hS => ?_) ?_; · obtain ⟨s0, s1, s2, s3, s4⟩ := hS; refine (specFI x0 h0_x0 h1_x0 wv).mono ?_; rintro e w' ⟨he, mm⟩; exact ⟨he, s0.trans mm, mm.cellAt s1, mm.cellAt s2, mm.cellAt s3, mm.cellAt s4⟩
  try simp only [Act.put, List.getElem_toArray, List.getElem_cons_succ, List.getElem_cons_zero, List.setIfInBounds_toArray, List.set_cons_zero, List.set_cons_succ]
  first | (refine Wk.skip (m := 16) (k := 3) rfl (by rfl) ?_) | (refine Wk.step (m := 16) (k := 3) (v := _) rfl (by rfl) (fun wv hS => by obtain ⟨s0, s1, s2, s3, s4⟩ := hS; go_simp; try with_reducible rfl) ?_)
  try simp only [Act.put, List.getElem_toArray, List.getElem_cons_succ, List.getElem_cons_zero, List.setIfInBounds_toArray, List.set_cons_zero, List.set_cons_succ]
  first | (refine Wk.skip (m := 15) (k := 4) rfl (by rfl) ?_) | (refine Wk.step (m := 15) (k := 4) (v := _) rfl (by rfl) (fun wv hS => by obtain ⟨s0, s1, s2, s3, s4⟩ := hS; go_simp; try with_reducible rfl) ?_)
  try simp only [Act.put, List.getElem_toArray, List.getElem_cons_succ, List.getElem_cons_zero, List.setIfInBounds_toArray, List.set_cons_zero, List.set_cons_succ]
  first | (refine Wk.skip (m := 14) (k := 5) rfl (by rfl) ?_) | (refine Wk.step (m := 14) (k := 5) (v := _) rfl (by rfl) (fun wv hS => by obtain ⟨s0, s1, s2, s3, s4⟩ := hS; go_simp; try with_reducible rfl) ?_)
  try simp only [Act.put, List.getElem_toArray, List.getElem_cons_succ, List.getElem_cons_zero, List.setIfInBounds_toArray, List.set_cons_zero, List.set_cons_succ]
  refine Wk.call (m := 13) (k := 6) (v := .string (tI x1)) _ _ rfl (by rfl) (fun wv hS => by obtain ⟨s0, s1, s2, s3, s4⟩ := hS; go_simp; first | done | exact ⟨rfl, rfl⟩ | with_reducible rfl) (fun wv hS => ?_) ?_; · obtain ⟨s0, s1, s2, s3, s4⟩ := hS; refine (specFI x1 h0_x1 h1_x1 wv).mono ?_; rintro e w' ⟨he, mm⟩; exact ⟨he, s0.trans mm, mm.cellAt s1, mm.cellAt s2, mm.cellAt s3, mm.cellAt s4⟩
  try simp only [Act.put, List.getElem_toArray, List.getElem_cons_succ, List.getElem_cons_zero, List.setIfInBounds_toArray, List.set_cons_zero, List.set_cons_succ]
  first | (refine Wk.skip (m := 12) (k := 7) rfl (by rfl) ?_) | (refine Wk.step (m := 12) (k := 7) (v := _) rfl (by rfl) (fun wv hS => by obtain ⟨s0, s1, s2, s3, s4⟩ := hS; go_simp; try with_reducible rfl) ?_)
  try simp only [Act.put, List.getElem_toArray, List.getElem_cons_succ, List.getElem_cons_zero, List.setIfInBounds_toArray, List.set_cons_zero, List.set_cons_succ]
  first | (refine Wk.skip (m := 11) (k := 8) rfl (by rfl) ?_) | (refine Wk.step (m := 11) (k := 8) (v := _) rfl (by rfl) (fun wv hS => by obtain ⟨s0, s1, s2, s3, s4⟩ := hS; go_simp; try with_reducible rfl) ?_)
  try simp only [Act.put, List.getElem_toArray, List.getElem_cons_succ, List.getElem_cons_zero, List.setIfInBounds_toArray, List.set_cons_zero, List.set_cons_succ]
  first | (refine Wk.skip (m := 10) (k := 9) rfl (by rfl) ?_) | (refine Wk.step (m := 10) (k := 9) (v := _) rfl (by rfl) (fun wv hS => by obtain ⟨s0, s1, s2, s3, s4⟩ := hS; go_simp; try with_reducible rfl) ?_)
  try simp only [Act.put, List.getElem_toArray, List.getElem_cons_succ, List.getElem_cons_zero, List.setIfInBounds_toArray, List.set_cons_zero, List.set_cons_succ]
  first | (refine Wk.skip (m := 9) (k := 10) rfl (by rfl) ?_) | (refine Wk.step (m := 9) (k := 10) (v := _) rfl (by rfl) (fun wv hS => by obtain ⟨s0, s1, s2, s3, s4⟩ := hS; go_simp; try with_reducible rfl) ?_)
  try simp only [Act.put, List.getElem_toArray, List.getElem_cons_succ, List.getElem_cons_zero, List.setIfInBounds_toArray, List.set_cons_zero, List.set_cons_succ]
  refine Wk.call (m := 8) (k := 11) (v := .string (tI x5)) _ _ rfl (by rfl) (fun wv hS => by obtain ⟨s0, s1, s2, s3, s4⟩ := hS; go_simp; first | done | exact ⟨rfl, rfl⟩ | with_reducible rfl) (fun wv hS => ?_) ?_; · obtain ⟨s0, s1, s2, s3, s4⟩ := hS; refine (specFI x5 h0_x5 h1_x5 wv).mono ?_; rintro e w' ⟨he, mm⟩; exact ⟨he, s0.trans mm, mm.cellAt s1, mm.cellAt s2, mm.cellAt s3, mm.cellAt s4⟩
  try simp only [Act.put, List.getElem_toArray, List.getElem_cons_succ, List.getElem_cons_zero, List.setIfInBounds_toArray, List.set_cons_zero, List.set_cons_succ]
  first | (refine Wk.skip (m := 7) (k := 12) rfl (by rfl) ?_) | (refine Wk.step (m := 7) (k := 12) (v := _) rfl (by rfl) (fun wv hS => by obtain ⟨s0, s1, s2, s3, s4⟩ := hS; go_simp; try with_reducible rfl) ?_)
  try simp only [Act.put, List.getElem_toArray, List.getElem_cons_succ, List.getElem_cons_zero, List.setIfInBounds_toArray, List.set_cons_zero, List.set_cons_succ]
  first | (refine Wk.skip (m := 6) (k := 13) rfl (by rfl) ?_) | (refine Wk.step (m := 6) (k := 13) (v := _) rfl (by rfl) (fun wv hS => by obtain ⟨s0, s1, s2, s3, s4⟩ := hS; go_simp; try with_reducible rfl) ?_)
  try simp only [Act.put, List.getElem_toArray, List.getElem_cons_succ, List.getElem_cons_zero, List.setIfInBounds_toArray, List.set_cons_zero, List.set_cons_succ]
  first | (refine Wk.skip (m := 5) (k := 14) rfl (by rfl) ?_) | (refine Wk.step (m := 5) (k := 14) (v := _) rfl (by rfl) (fun wv hS => by obtain ⟨s0, s1, s2, s3, s4⟩ := hS; go_simp; try with_reducible rfl) ?_)
  try simp only [Act.put, List.getElem_toArray, List.getElem_cons_succ, List.getElem_cons_zero, List.setIfInBounds_toArray, List.set_cons_zero, List.set_cons_succ]
  first | (refine Wk.skip (m := 4) (k := 15) rfl (by rfl) ?_) | (refine Wk.step (m := 4) (k := 15) (v := _) rfl (by rfl) (fun wv hS => by obtain ⟨s0, s1, s2, s3, s4⟩ := hS; go_simp; try with_reducible rfl) ?_)
  try simp only [Act.put, List.getElem_toArray, List.getElem_cons_succ, List.getElem_cons_zero, List.setIfInBounds_toArray, List.set_cons_zero, List.set_cons_succ]
  refine Wk.call (m := 3) (k := 16) (v := .int .i64 S) _ _ rfl (by rfl) (fun wv hS => by obtain ⟨s0, s1, s2, s3, s4⟩ := hS; go_simp; first | done | exact ⟨rfl, rfl⟩ | with_reducible rfl) (fun wv hS => ?_) ?_; · obtain ⟨s0, s1, s2, s3, s4⟩ := hS; refine (specSetSize x4 wv).mono ?_; rintro e w' ⟨he, bb⟩; have mm := Mk.of_below bb; exact ⟨by rw [he, ← hS.out]; rfl, s0.trans mm, mm.cellAt s1, mm.cellAt s2, mm.cellAt s3, mm.cellAt s4⟩
  try simp only [Act.put, List.getElem_toArray, List.getElem_cons_succ, List.getElem_cons_zero, List.setIfInBounds_toArray, List.set_cons_zero, List.set_cons_succ]
  refine Wk.call (m := 2) (k := 17) (v := .string (tI S)) _ _ rfl (by rfl) (fun wv hS => by obtain ⟨s0, s1, s2, s3, s4⟩ := hS; go_simp; first | done | exact ⟨rfl, rfl⟩ | with_reducible rfl) (fun wv hS => ?_) ?_; · obtain ⟨s0, s1, s2, s3, s4⟩ := hS; refine (specFI S h0_S h1_S wv).mono ?_; rintro e w' ⟨he, mm⟩; exact ⟨he, s0.trans mm, mm.cellAt s1, mm.cellAt s2, mm.cellAt s3, mm.cellAt s4⟩
  try simp only [Act.put, List.getElem_toArray, List.getElem_cons_succ, List.getElem_cons_zero, List.setIfInBounds_toArray, List.set_cons_zero, List.set_cons_succ]
  first | (refine Wk.skip (m := 1) (k := 18) rfl (by rfl) ?_) | (refine Wk.step (m := 1) (k := 18) (v := _) rfl (by rfl) (fun wv hS => by obtain ⟨s0, s1, s2, s3, s4⟩ := hS; go_simp; try with_reducible rfl) ?_)
  try simp only [Act.put, List.getElem_toArray, List.getElem_cons_succ, List.getElem_cons_zero, List.setIfInBounds_toArray, List.set_cons_zero, List.set_cons_succ]
  first | (refine Wk.skip (m := 0) (k := 19) rfl (by rfl) ?_) | (refine Wk.step (m := 0) (k := 19) (v := _) rfl (by rfl) (fun wv hS => by obtain ⟨s0, s1, s2, s3, s4⟩ := hS; go_simp; try with_reducible rfl) ?_)
  try simp only [Act.put, List.getElem_toArray, List.getElem_cons_succ, List.getElem_cons_zero, List.setIfInBounds_toArray, List.set_cons_zero, List.set_cons_succ]
  refine Wk.done fun wE hE => ?_
  clear k0 k1 k4 k5
  obtain ⟨mE, k0, k1, k4, k5⟩ := hE
  go_wp2_with fail
  go_ret
  exact ⟨rfl, M0.trans mE⟩

set_option maxRecDepth 100000 in
set_option maxHeartbeats 4000000 in
theorem implFRoot (x0 x1 x2 x3 x4 x5 : Int) (a6 : Option Addr) (n6 c6 : Nat) (w : World) (h0_x0 : -9223372036854775808 ≤ x0) (h1_x0 : x0 ≤ 9223372036854775807) (h0_x1 : -9223372036854775808 ≤ x1) (h1_x1 : x1 ≤ 9223372036854775807) (h0_x5 : -9223372036854775808 ≤ x5) (h1_x5 : x5 ≤ 9223372036854775807) (htab : Lib.TabIs Tryd.prog w "internal/strconv.uint64pow10" .u64 Lib.pow10Tab) :
    Calls Tryd.prog 9 #[.agg #[.int .i64 x0, .int .i64 x1, .int .i64 x2, .int .i64 x3, .int .i64 x4, .int .i64 x5, .slice a6 n6 c6]] w fun e w' => e = .returned (.string (rootT x0 x1 x5 x4)) ∧ Mk0 w w' := by
  have M0 := Mk.alloc w (Obj.cells #[Value.int .i64 x0, Value.int .i64 x1, Value.int .i64 x2, Value.int .i64 x3, Value.int .i64 x4, Value.int .i64 x5, Value.slice a6 n6 c6] 29)
  have k0 : (w.alloc (Obj.cells #[Value.int .i64 x0, Value.int .i64 x1, Value.int .i64 x2, Value.int .i64 x3, Value.int .i64 x4, Value.int .i64 x5, Value.slice a6 n6 c6] 29)).cell? ⟨w.heap.size, 0, none⟩ = some (.int .i64 x0) := by simp [go_sem]
  have k1 : (w.alloc (Obj.cells #[Value.int .i64 x0, Value.int .i64 x1, Value.int .i64 x2, Value.int .i64 x3, Value.int .i64 x4, Value.int .i64 x5, Value.slice a6 n6 c6] 29)).cell? ⟨w.heap.size, 1, none⟩ = some (.int .i64 x1) := by simp [go_sem]
  have k4 : (w.alloc (Obj.cells #[Value.int .i64 x0, Value.int .i64 x1, Value.int .i64 x2, Value.int .i64 x3, Value.int .i64 x4, Value.int .i64 x5, Value.slice a6 n6 c6] 29)).cell? ⟨w.heap.size, 4, none⟩ = some (.int .i64 x4) := by simp [go_sem]
  have k5 : (w.alloc (Obj.cells #[Value.int .i64 x0, Value.int .i64 x1, Value.int .i64 x2, Value.int .i64 x3, Value.int .i64 x4, Value.int .i64 x5, Value.slice a6 n6 c6] 29)).cell? ⟨w.heap.size, 5, none⟩ = some (.int .i64 x5) := by simp [go_sem]
  obtain ⟨S, hS⟩ : ∃ S, Hid (szV x4 = S) := ⟨_, Lib.hid rfl⟩
  obtain ⟨h0_S, h1_S⟩ : -9223372036854775808 ≤ S ∧ S ≤ 9223372036854775807 := hS.out ▸ szV_bd x4
  unfold rootT
  rw [hS.out]
  have ad0 := add_ok (tI x0) (⟨#[46]⟩) (p := 21) (q := 1) (tI_size h0_x0 h1_x0) (one1 46) (by decide)
  have ad1 := add_ok (tI x0 ++ ⟨#[46]⟩) (tI x1) (p := 22) (q := 21) (size_app (p := 21) (q := 1) (tI_size h0_x0 h1_x0) (one1 46)) (tI_size h0_x1 h1_x1) (by decide)
  have ad2 := add_ok (tI x0 ++ ⟨#[46]⟩ ++ tI x1) (⟨#[32]⟩) (p := 43) (q := 1) (size_app (p := 22) (q := 21) (size_app (p := 21) (q := 1) (tI_size h0_x0 h1_x0) (one1 46)) (tI_size h0_x1 h1_x1)) (one1 32) (by decide)
  have ad3 := add_ok (tI x0 ++ ⟨#[46]⟩ ++ tI x1 ++ ⟨#[32]⟩) (tI x5) (p := 44) (q := 21) (size_app (p := 43) (q := 1) (size_app (p := 22) (q := 21) (size_app (p := 21) (q := 1) (tI_size h0_x0 h1_x0) (one1 46)) (tI_size h0_x1 h1_x1)) (one1 32)) (tI_size h0_x5 h1_x5) (by decide)
  have ad4 := add_ok (tI x0 ++ ⟨#[46]⟩ ++ tI x1 ++ ⟨#[32]⟩ ++ tI x5) (⟨#[47]⟩) (p := 65) (q := 1) (size_app (p := 44) (q := 21) (size_app (p := 43) (q := 1) (size_app (p := 22) (q := 21) (size_app (p := 21) (q := 1) (tI_size h0_x0 h1_x0) (one1 46)) (tI_size h0_x1 h1_x1)) (one1 32)) (tI_size h0_x5 h1_x5)) (one1 47) (by decide)
  have ad5 := add_ok (tI x0 ++ ⟨#[46]⟩ ++ tI x1 ++ ⟨#[32]⟩ ++ tI x5 ++ ⟨#[47]⟩) (tI S) (p := 66) (q := 21) (size_app (p := 65) (q := 1) (size_app (p := 44) (q := 21) (size_app (p := 43) (q := 1) (size_app (p := 22) (q := 21) (size_app (p := 21) (q := 1) (tI_size h0_x0 h1_x0) (one1 46)) (tI_size h0_x1 h1_x1)) (one1 32)) (tI_size h0_x5 h1_x5)) (one1 47)) (tI_size h0_S h1_S) (by decide)
  go_enter Tryd.func9, Tryd.ntmps9
  go_wp2_with fail
  refine wp_region_wk (fun w' => Mk0 (w.alloc (Obj.cells #[Value.int .i64 x0, Value.int .i64 x1, Value.int .i64 x2, Value.int .i64 x3, Value.int .i64 x4, Value.int .i64 x5, Value.slice a6 n6 c6] 29)) w' ∧ w'.cell? ⟨w.heap.size, 0, none⟩ = some (.int .i64 x0) ∧ w'.cell? ⟨w.heap.size, 1, none⟩ = some (.int .i64 x1) ∧ w'.cell? ⟨w.heap.size, 4, none⟩ = some (.int .i64 x4) ∧ w'.cell? ⟨w.heap.size, 5, none⟩ = some (.int .i64 x5)) (by kernel_rfl) (by kernel_rfl) (⟨Mk.drew1 _, k0, k1, k4, k5⟩) ?_
  change Wk _ _ _ _ 20 0 _
  first | (refine Wk.skip (m := 19) (k := 0) rfl (by rfl) ?_) | (refine Wk.step (m := 19) (k := 0) (v := _) rfl (by rfl) (fun wv hS => by obtain ⟨s0, s1, s2, s3, s4⟩ := hS; go_simp; try with_reducible rfl) ?_)
  try simp only [Act.put, List.getElem_toArray, List.getElem_cons_zero, List.setIfInBounds_toArray, List.set_cons_zero, List.set_cons_succ]
  first | (refine Wk.skip (m := 18) (k := 1) rfl (by rfl) ?_) | (refine Wk.step (m := 18) (k := 1) (v := _) rfl (by rfl) (fun wv hS => by obtain ⟨s0, s1, s2, s3, s4⟩ := hS; go_simp; try with_reducible rfl) ?_)
  try simp only [Act.put, List.getElem_toArray, List.getElem_cons_succ, List.getElem_cons_zero, List.setIfInBounds_toArray, List.set_cons_zero, List.set_cons_succ]
  refine Wk.call (m := 17) (k := 2) (v := .string (tI x0)) _ _ rfl (by rfl) (fun wv hS => by obtain ⟨s0, s1, s2, s3, s4⟩ := hS; go_simp; first | done | exact ⟨rfl, rfl⟩ | with_reducible rfl) (fun wv hS => ?_) ?_; · obtain ⟨s0, s1, s2, s3, s4⟩ := hS; refine (implFI x0 h0_x0 h1_x0 wv (tab_mk htab (M0.trans s0))).mono ?_; rintro e w' ⟨he, mm⟩; exact ⟨he, s0.trans mm, mm.cellAt s1, mm.cellAt s2, mm.cellAt s3, mm.cellAt s4⟩
  try simp only [Act.put, List.getElem_toArray, List.getElem_cons_succ, List.getElem_cons_zero, List.setIfInBounds_toArray, List.set_cons_zero, List.set_cons_succ]
  first | (refine Wk.skip (m := 16) (k := 3) rfl (by rfl) ?_) | (refine Wk.step (m := 16) (k := 3) (v := _) rfl (by rfl) (fun wv hS => by obtain ⟨s0, s1, s2, s3, s4⟩ := hS; go_simp; try with_reducible rfl) ?_)
  try simp only [Act.put, List.getElem_toArray, List.getElem_cons_succ, List.getElem_cons_zero, List.setIfInBounds_toArray, List.set_cons_zero, List.set_cons_succ]
  first | (refine Wk.skip (m := 15) (k := 4) rfl (by rfl) ?_) | (refine Wk.step (m := 15) (k := 4) (v := _) rfl (by rfl) (fun wv hS => by obtain ⟨s0, s1, s2, s3, s4⟩ := hS; go_simp; try with_reducible rfl) ?_)
  try simp only [Act.put, List.getElem_toArray, List.getElem_cons_succ, List.getElem_cons_zero, List.setIfInBounds_toArray, List.set_cons_zero, List.set_cons_succ]
  first | (refine Wk.skip (m := 14) (k := 5) rfl (by rfl) ?_) | (refine Wk.step (m := 14) (k := 5) (v := _) rfl (by rfl) (fun wv hS => by obtain ⟨s0, s1, s2, s3, s4⟩ := hS; go_simp; try with_reducible rfl) ?_)
  try simp only [Act.put, List.getElem_toArray, List.getElem_cons_succ, List.getElem_cons_zero, List.setIfInBounds_toArray, List.set_cons_zero, List.set_cons_succ]
  refine Wk.call (m := 13) (k := 6) (v := .string (tI x1)) _ _ rfl (by rfl) (fun wv hS => by obtain ⟨s0, s1, s2, s3, s4⟩ := hS; go_simp; first | done | exact ⟨rfl, rfl⟩ | with_reducible rfl) (fun wv hS => ?_) ?_; · obtain ⟨s0, s1, s2, s3, s4⟩ := hS; refine (implFI x1 h0_x1 h1_x1 wv (tab_mk htab (M0.trans s0))).mono ?_; rintro e w' ⟨he, mm⟩; exact ⟨he, s0.trans mm, mm.cellAt s1, mm.cellAt s2, mm.cellAt s3, mm.cellAt s4⟩
  try simp only [Act.put, List.getElem_toArray, List.getElem_cons_succ, List.getElem_cons_zero, List.setIfInBounds_toArray, List.set_cons_zero, List.set_cons_succ]
  first | (refine Wk.skip (m := 12) (k := 7) rfl (by rfl) ?_) | (refine Wk.step (m := 12) (k := 7) (v := _) rfl (by rfl) (fun wv hS => by obtain ⟨s0, s1, s2, s3, s4⟩ := hS; go_simp; try with_reducible rfl) ?_)
  try simp only [Act.put, List.getElem_toArray, List.getElem_cons_succ, List.getElem_cons_zero, List.setIfInBounds_toArray, List.set_cons_zero, List.set_cons_succ]
  first | (refine Wk.skip (m := 11) (k := 8) rfl (by rfl) ?_) | (refine Wk.step (m := 11) (k := 8) (v := _) rfl (by rfl) (fun wv hS => by obtain ⟨s0, s1, s2, s3, s4⟩ := hS; go_simp; try with_reducible rfl) ?_)
  try simp only [Act.put, List.getElem_toArray, List.getElem_cons_succ, List.getElem_cons_zero, List.setIfInBounds_toArray, List.set_cons_zero, List.set_cons_succ]
  first | (refine Wk.skip (m := 10) (k := 9) rfl (by rfl) ?_) | (refine Wk.step (m := 10) (k := 9) (v := _) rfl (by rfl) (fun wv hS => by obtain ⟨s0, s1, s2, s3, s4⟩ := hS; go_simp; try with_reducible rfl) ?_)
  try simp only [Act.put, List.getElem_toArray, List.getElem_cons_succ, List.getElem_cons_zero, List.setIfInBounds_toArray, List.set_cons_zero, List.set_cons_succ]
  first | (refine Wk.skip (m := 9) (k := 10) rfl (by rfl) ?_) | (refine Wk.step (m := 9) (k := 10) (v := _) rfl (by rfl) (fun wv hS => by obtain ⟨s0, s1, s2, s3, s4⟩ := hS; go_simp; try with_reducible rfl) ?_)
  try simp only [Act.put, List.getElem_toArray, List.getElem_cons_succ, List.getElem_cons_zero, List.setIfInBounds_toArray, List.set_cons_zero, List.set_cons_succ]
  refine Wk.call (m := 8) (k := 11) (v := .string (tI x5)) _ _ rfl (by rfl) (fun wv hS => by obtain ⟨s0, s1, s2, s3, s4⟩ := hS; go_simp; first | done | exact ⟨rfl, rfl⟩ | with_reducible rfl) (fun wv hS => ?_) ?_; · obtain ⟨s0, s1, s2, s3, s4⟩ := hS; refine (implFI x5 h0_x5 h1_x5 wv (tab_mk htab (M0.trans s0))).mono ?_; rintro e w' ⟨he, mm⟩; exact ⟨he, s0.trans mm, mm.cellAt s1, mm.cellAt s2, mm.cellAt s3, mm.cellAt s4⟩
  try simp only [Act.put, List.getElem_toArray, List.getElem_cons_succ, List.getElem_cons_zero, List.setIfInBounds_toArray, List.set_cons_zero, List.set_cons_succ]
  first | (refine Wk.skip (m := 7) (k := 12) rfl (by rfl) ?_) | (refine Wk.step (m := 7) (k := 12) (v := _) rfl (by rfl) (fun wv hS => by obtain ⟨s0, s1, s2, s3, s4⟩ := hS; go_simp; try with_reducible rfl) ?_)
  try simp only [Act.put, List.getElem_toArray, List.getElem_cons_succ, List.getElem_cons_zero, List.setIfInBounds_toArray, List.set_cons_zero, List.set_cons_succ]
  first | (refine Wk.skip (m := 6) (k := 13) rfl (by rfl) ?_) | (refine Wk.step (m := 6) (k := 13) (v := _) rfl (by rfl) (fun wv hS => by obtain ⟨s0, s1, s2, s3, s4⟩ := hS; go_simp; try with_reducible rfl) ?_)
  try simp only [Act.put, List.getElem_toArray, List.getElem_cons_succ, List.getElem_cons_zero, List.setIfInBounds_toArray, List.set_cons_zero, List.set_cons_succ]
  first | (refine Wk.skip (m := 5) (k := 14) rfl (by rfl) ?_) | (refine Wk.step (m := 5) (k := 14) (v := _) rfl (by rfl) (fun wv hS => by obtain ⟨s0, s1, s2, s3, s4⟩ := hS; go_simp; try with_reducible rfl) ?_)
  try simp only [Act.put, List.getElem_toArray, List.getElem_cons_succ, List.getElem_cons_zero, List.setIfInBounds_toArray, List.set_cons_zero, List.set_cons_succ]
  first | (refine Wk.skip (m := 4) (k := 15) rfl (by rfl) ?_) | (refine Wk.step (m := 4) (k := 15) (v := _) rfl (by rfl) (fun wv hS => by obtain ⟨s0, s1, s2, s3, s4⟩ := hS; go_simp; try with_reducible rfl) ?_)
  try simp only [Act.put, List.getElem_toArray, List.getElem_cons_succ, List.getElem_cons_zero, List.setIfInBounds_toArray, List.set_cons_zero, List.set_cons_succ]
  refine Wk.call (m := 3) (k := 16) (v := .int .i64 S) _ _ rfl (by rfl) (fun wv hS => by obtain ⟨s0, s1, s2, s3, s4⟩ := hS; go_simp; first | done | exact ⟨rfl, rfl⟩ | with_reducible rfl) (fun wv hS => ?_) ?_; · obtain ⟨s0, s1, s2, s3, s4⟩ := hS; refine (implSetSize x4 wv).mono ?_; rintro e w' ⟨he, bb⟩; have mm := Mk.of_below bb; exact ⟨by rw [he, ← hS.out]; rfl, s0.trans mm, mm.cellAt s1, mm.cellAt s2, mm.cellAt s3, mm.cellAt s4⟩
  try simp only [Act.put, List.getElem_toArray, List.getElem_cons_succ, List.getElem_cons_zero, List.setIfInBounds_toArray, List.set_cons_zero, List.set_cons_succ]
  refine Wk.call (m := 2) (k := 17) (v := .string (tI S)) _ _ rfl (by rfl) (fun wv hS => by obtain ⟨s0, s1, s2, s3, s4⟩ := hS; go_simp; first | done | exact ⟨rfl, rfl⟩ | with_reducible rfl) (fun wv hS => ?_) ?_; · obtain ⟨s0, s1, s2, s3, s4⟩ := hS; refine (implFI S h0_S h1_S wv (tab_mk htab (M0.trans s0))).mono ?_; rintro e w' ⟨he, mm⟩; exact ⟨he, s0.trans mm, mm.cellAt s1, mm.cellAt s2, mm.cellAt s3, mm.cellAt s4⟩
  try simp only [Act.put, List.getElem_toArray, List.getElem_cons_succ, List.getElem_cons_zero, List.setIfInBounds_toArray, List.set_cons_zero, List.set_cons_succ]
  first | (refine Wk.skip (m := 1) (k := 18) rfl (by rfl) ?_) | (refine Wk.step (m := 1) (k := 18) (v := _) rfl (by rfl) (fun wv hS => by obtain ⟨s0, s1, s2, s3, s4⟩ := hS; go_simp; try with_reducible rfl) ?_)
  try simp only [Act.put, List.getElem_toArray, List.getElem_cons_succ, List.getElem_cons_zero, List.setIfInBounds_toArray, List.set_cons_zero, List.set_cons_succ]
  first | (refine Wk.skip (m := 0) (k := 19) rfl (by rfl) ?_) | (refine Wk.step (m := 0) (k := 19) (v := _) rfl (by rfl) (fun wv hS => by obtain ⟨s0, s1, s2, s3, s4⟩ := hS; go_simp; try with_reducible rfl) ?_)
  try simp only [Act.put, List.getElem_toArray, List.getElem_cons_succ, List.getElem_cons_zero, List.setIfInBounds_toArray, List.set_cons_zero, List.set_cons_succ]
  refine Wk.done fun wE hE => ?_
  clear k0 k1 k4 k5
  obtain ⟨mE, k0, k1, k4, k5⟩ := hE
  go_wp2_with fail
  go_ret
  exact ⟨rfl, M0.trans mE⟩

end Go.Proofs.YtgchhkgcdcknlaaDoor
