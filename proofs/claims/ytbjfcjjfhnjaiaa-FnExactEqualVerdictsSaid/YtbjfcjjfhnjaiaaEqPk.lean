
/- EqualPackets of both sides. -/
import Derived.Test.YtbjfcjjfhnjaiaaPktP
import Derived.Test.YtbjfcjjfhnjaiaaSameBy
import Derived.Test.YtbjfcjjfhnjaiaaEqPaths
import Derived.Test.YtbjfcjjfhnjaiaaStat
import Derived.Test.YtbjfcjjfhnjaiaaWt
import Derived.Test.YtbjfcjjfhnjaiaaRet
namespace Go.Proofs.Ytbjfcjjfhnjaiaa
open Go.ChangeShapes Go.WideShapes Go.ChangeAt Go.RowKit
set_option linter.unusedVariables false
theorem hl_eq (x0 x1 x2 x4 x5 x6 x7 x8 y0 y1 y2 y4 y5 y6 y7 y8 : Int) : eqB [x0, x1, x2, x4, x5, x6, x7, x8] [y0, y1, y2, y4, y5, y6, y7, y8] = ((x0 == y0) && ((x1 == y1) && ((x2 == y2) && ((x4 == y4) && ((x5 == y5) && ((x6 == y6) && ((x7 == y7) && (x8 == y8)))))))) := by
  rw [Bool.eq_iff_iff]
  simp [eqB]
def eqPkB (x0 x1 x2 x4 x5 x6 x7 x8 y0 y1 y2 y4 y5 y6 y7 y8 : Int) (n3 n3' : Nat) (z3 z3' : List TPathPart) (z9 z9' : List Int) : Bool := eqB [x0, x1, x2, x4, x5, x6, x7, x8] [y0, y1, y2, y4, y5, y6, y7, y8] && (eqB z9 z9' && eqListB eqPartT z3 z3' n3 n3')
set_option maxRecDepth 100000 in
set_option maxHeartbeats 4000000 in
theorem implHdr (q : Nat) (x0 x1 x2 x4 x5 x6 x7 x8 : Int) (w : World) (u0 : w.cell? ⟨q, 0, none⟩ = some (.int .i64 x0)) (u1 : w.cell? ⟨q, 1, none⟩ = some (.int .i64 x1)) (u2 : w.cell? ⟨q, 2, none⟩ = some (.int .i64 x2)) (u4 : w.cell? ⟨q, 4, none⟩ = some (.int .i64 x4)) (u5 : w.cell? ⟨q, 5, none⟩ = some (.int .i64 x5)) (u6 : w.cell? ⟨q, 6, none⟩ = some (.int .i64 x6)) (u7 : w.cell? ⟨q, 7, none⟩ = some (.int .i64 x7)) (u8 : w.cell? ⟨q, 8, none⟩ = some (.int .i64 x8)) :
    Calls Try.prog 70 #[.pointer (some ⟨q, 0, none⟩)] w fun e w' => ∃ b, e = .returned (.slice (some ⟨b, 0, none⟩) 8 8) ∧ Has .i64 w' w'.heap.size (some ⟨b, 0, none⟩) 8 [x0, x1, x2, x4, x5, x6, x7, x8] ∧ Mk0 w w' := by
  go_enter Try.func70, Try.ntmps70
  go_wp2_with fail
  refine wp_region_wkt (fun w' => Mk0 w w' ∧ w'.cell? ⟨q, 0, none⟩ = some (.int .i64 x0) ∧ w'.cell? ⟨q, 1, none⟩ = some (.int .i64 x1) ∧ w'.cell? ⟨q, 2, none⟩ = some (.int .i64 x2) ∧ w'.cell? ⟨q, 4, none⟩ = some (.int .i64 x4) ∧ w'.cell? ⟨q, 5, none⟩ = some (.int .i64 x5) ∧ w'.cell? ⟨q, 6, none⟩ = some (.int .i64 x6) ∧ w'.cell? ⟨q, 7, none⟩ = some (.int .i64 x7) ∧ w'.cell? ⟨q, 8, none⟩ = some (.int .i64 x8)) 32 (by kernel_rfl) (by kernel_rfl) (by kernel_rfl) (by decide) (⟨Mk.drew1 _, u0, u1, u2, u4, u5, u6, u7, u8⟩) ?_
  change WkT _ _ _ _ _ 32 0 _
  first | (refine WkT.skip (m := 31) (k := 0) rfl (by rfl) ?_) | (refine WkT.pure (m := 31) (k := 0) (v := _) rfl (by rfl) (fun wv => by go_simp; try with_reducible rfl) ?_) | (refine WkT.step (m := 31) (k := 0) (v := _) rfl (by rfl) (by kernel_rfl) (fun wv hS => by obtain ⟨s0, s1, s2, s3, s4, s5, s6, s7, s8⟩ := hS; go_simp; try with_reducible rfl) ?_)
  try simp only [Act.put, List.getElem_toArray, List.getElem_cons_zero, List.setIfInBounds_toArray, List.set_cons_zero, List.set_cons_succ]
  first | (refine WkT.skip (m := 30) (k := 1) rfl (by rfl) ?_) | (refine WkT.pure (m := 30) (k := 1) (v := _) rfl (by rfl) (fun wv => by go_simp; try with_reducible rfl) ?_) | (refine WkT.step (m := 30) (k := 1) (v := _) rfl (by rfl) (by kernel_rfl) (fun wv hS => by obtain ⟨s0, s1, s2, s3, s4, s5, s6, s7, s8⟩ := hS; go_simp; try with_reducible rfl) ?_)
  try simp only [Act.put, List.getElem_toArray, List.getElem_cons_succ, List.getElem_cons_zero, List.setIfInBounds_toArray, List.set_cons_zero, List.set_cons_succ]
  first | (refine WkT.skip (m := 29) (k := 2) rfl (by rfl) ?_) | (refine WkT.pure (m := 29) (k := 2) (v := _) rfl (by rfl) (fun wv => by go_simp; try with_reducible rfl) ?_) | (refine WkT.step (m := 29) (k := 2) (v := _) rfl (by rfl) (by kernel_rfl) (fun wv hS => by obtain ⟨s0, s1, s2, s3, s4, s5, s6, s7, s8⟩ := hS; go_simp; try with_reducible rfl) ?_)
  try simp only [Act.put, List.getElem_toArray, List.getElem_cons_succ, List.getElem_cons_zero, List.setIfInBounds_toArray, List.set_cons_zero, List.set_cons_succ]
  first | (refine WkT.skip (m := 28) (k := 3) rfl (by rfl) ?_) | (refine WkT.pure (m := 28) (k := 3) (v := _) rfl (by rfl) (fun wv => by go_simp; try with_reducible rfl) ?_) | (refine WkT.step (m := 28) (k := 3) (v := _) rfl (by rfl) (by kernel_rfl) (fun wv hS => by obtain ⟨s0, s1, s2, s3, s4, s5, s6, s7, s8⟩ := hS; go_simp; try with_reducible rfl) ?_)
  try simp only [Act.put, List.getElem_toArray, List.getElem_cons_succ, List.getElem_cons_zero, List.setIfInBounds_toArray, List.set_cons_zero, List.set_cons_succ]
  first | (refine WkT.skip (m := 27) (k := 4) rfl (by rfl) ?_) | (refine WkT.pure (m := 27) (k := 4) (v := _) rfl (by rfl) (fun wv => by go_simp; try with_reducible rfl) ?_) | (refine WkT.step (m := 27) (k := 4) (v := _) rfl (by rfl) (by kernel_rfl) (fun wv hS => by obtain ⟨s0, s1, s2, s3, s4, s5, s6, s7, s8⟩ := hS; go_simp; try with_reducible rfl) ?_)
  try simp only [Act.put, List.getElem_toArray, List.getElem_cons_succ, List.getElem_cons_zero, List.setIfInBounds_toArray, List.set_cons_zero, List.set_cons_succ]
  first | (refine WkT.skip (m := 26) (k := 5) rfl (by rfl) ?_) | (refine WkT.pure (m := 26) (k := 5) (v := _) rfl (by rfl) (fun wv => by go_simp; try with_reducible rfl) ?_) | (refine WkT.step (m := 26) (k := 5) (v := _) rfl (by rfl) (by kernel_rfl) (fun wv hS => by obtain ⟨s0, s1, s2, s3, s4, s5, s6, s7, s8⟩ := hS; go_simp; try with_reducible rfl) ?_)
  try simp only [Act.put, List.getElem_toArray, List.getElem_cons_succ, List.getElem_cons_zero, List.setIfInBounds_toArray, List.set_cons_zero, List.set_cons_succ]
  first | (refine WkT.skip (m := 25) (k := 6) rfl (by rfl) ?_) | (refine WkT.pure (m := 25) (k := 6) (v := _) rfl (by rfl) (fun wv => by go_simp; try with_reducible rfl) ?_) | (refine WkT.step (m := 25) (k := 6) (v := _) rfl (by rfl) (by kernel_rfl) (fun wv hS => by obtain ⟨s0, s1, s2, s3, s4, s5, s6, s7, s8⟩ := hS; go_simp; try with_reducible rfl) ?_)
  try simp only [Act.put, List.getElem_toArray, List.getElem_cons_succ, List.getElem_cons_zero, List.setIfInBounds_toArray, List.set_cons_zero, List.set_cons_succ]
  first | (refine WkT.skip (m := 24) (k := 7) rfl (by rfl) ?_) | (refine WkT.pure (m := 24) (k := 7) (v := _) rfl (by rfl) (fun wv => by go_simp; try with_reducible rfl) ?_) | (refine WkT.step (m := 24) (k := 7) (v := _) rfl (by rfl) (by kernel_rfl) (fun wv hS => by obtain ⟨s0, s1, s2, s3, s4, s5, s6, s7, s8⟩ := hS; go_simp; try with_reducible rfl) ?_)
  try simp only [Act.put, List.getElem_toArray, List.getElem_cons_succ, List.getElem_cons_zero, List.setIfInBounds_toArray, List.set_cons_zero, List.set_cons_succ]
  first | (refine WkT.skip (m := 23) (k := 8) rfl (by rfl) ?_) | (refine WkT.pure (m := 23) (k := 8) (v := _) rfl (by rfl) (fun wv => by go_simp; try with_reducible rfl) ?_) | (refine WkT.step (m := 23) (k := 8) (v := _) rfl (by rfl) (by kernel_rfl) (fun wv hS => by obtain ⟨s0, s1, s2, s3, s4, s5, s6, s7, s8⟩ := hS; go_simp; try with_reducible rfl) ?_)
  try simp only [Act.put, List.getElem_toArray, List.getElem_cons_succ, List.getElem_cons_zero, List.setIfInBounds_toArray, List.set_cons_zero, List.set_cons_succ]
  first | (refine WkT.skip (m := 22) (k := 9) rfl (by rfl) ?_) | (refine WkT.pure (m := 22) (k := 9) (v := _) rfl (by rfl) (fun wv => by go_simp; try with_reducible rfl) ?_) | (refine WkT.step (m := 22) (k := 9) (v := _) rfl (by rfl) (by kernel_rfl) (fun wv hS => by obtain ⟨s0, s1, s2, s3, s4, s5, s6, s7, s8⟩ := hS; go_simp; try with_reducible rfl) ?_)
  try simp only [Act.put, List.getElem_toArray, List.getElem_cons_succ, List.getElem_cons_zero, List.setIfInBounds_toArray, List.set_cons_zero, List.set_cons_succ]
  first | (refine WkT.skip (m := 21) (k := 10) rfl (by rfl) ?_) | (refine WkT.pure (m := 21) (k := 10) (v := _) rfl (by rfl) (fun wv => by go_simp; try with_reducible rfl) ?_) | (refine WkT.step (m := 21) (k := 10) (v := _) rfl (by rfl) (by kernel_rfl) (fun wv hS => by obtain ⟨s0, s1, s2, s3, s4, s5, s6, s7, s8⟩ := hS; go_simp; try with_reducible rfl) ?_)
  try simp only [Act.put, List.getElem_toArray, List.getElem_cons_succ, List.getElem_cons_zero, List.setIfInBounds_toArray, List.set_cons_zero, List.set_cons_succ]
  first | (refine WkT.skip (m := 20) (k := 11) rfl (by rfl) ?_) | (refine WkT.pure (m := 20) (k := 11) (v := _) rfl (by rfl) (fun wv => by go_simp; try with_reducible rfl) ?_) | (refine WkT.step (m := 20) (k := 11) (v := _) rfl (by rfl) (by kernel_rfl) (fun wv hS => by obtain ⟨s0, s1, s2, s3, s4, s5, s6, s7, s8⟩ := hS; go_simp; try with_reducible rfl) ?_)
  try simp only [Act.put, List.getElem_toArray, List.getElem_cons_succ, List.getElem_cons_zero, List.setIfInBounds_toArray, List.set_cons_zero, List.set_cons_succ]
  first | (refine WkT.skip (m := 19) (k := 12) rfl (by rfl) ?_) | (refine WkT.pure (m := 19) (k := 12) (v := _) rfl (by rfl) (fun wv => by go_simp; try with_reducible rfl) ?_) | (refine WkT.step (m := 19) (k := 12) (v := _) rfl (by rfl) (by kernel_rfl) (fun wv hS => by obtain ⟨s0, s1, s2, s3, s4, s5, s6, s7, s8⟩ := hS; go_simp; try with_reducible rfl) ?_)
  try simp only [Act.put, List.getElem_toArray, List.getElem_cons_succ, List.getElem_cons_zero, List.setIfInBounds_toArray, List.set_cons_zero, List.set_cons_succ]
  first | (refine WkT.skip (m := 18) (k := 13) rfl (by rfl) ?_) | (refine WkT.pure (m := 18) (k := 13) (v := _) rfl (by rfl) (fun wv => by go_simp; try with_reducible rfl) ?_) | (refine WkT.step (m := 18) (k := 13) (v := _) rfl (by rfl) (by kernel_rfl) (fun wv hS => by obtain ⟨s0, s1, s2, s3, s4, s5, s6, s7, s8⟩ := hS; go_simp; try with_reducible rfl) ?_)
  try simp only [Act.put, List.getElem_toArray, List.getElem_cons_succ, List.getElem_cons_zero, List.setIfInBounds_toArray, List.set_cons_zero, List.set_cons_succ]
  first | (refine WkT.skip (m := 17) (k := 14) rfl (by rfl) ?_) | (refine WkT.pure (m := 17) (k := 14) (v := _) rfl (by rfl) (fun wv => by go_simp; try with_reducible rfl) ?_) | (refine WkT.step (m := 17) (k := 14) (v := _) rfl (by rfl) (by kernel_rfl) (fun wv hS => by obtain ⟨s0, s1, s2, s3, s4, s5, s6, s7, s8⟩ := hS; go_simp; try with_reducible rfl) ?_)
  try simp only [Act.put, List.getElem_toArray, List.getElem_cons_succ, List.getElem_cons_zero, List.setIfInBounds_toArray, List.set_cons_zero, List.set_cons_succ]
  first | (refine WkT.skip (m := 16) (k := 15) rfl (by rfl) ?_) | (refine WkT.pure (m := 16) (k := 15) (v := _) rfl (by rfl) (fun wv => by go_simp; try with_reducible rfl) ?_) | (refine WkT.step (m := 16) (k := 15) (v := _) rfl (by rfl) (by kernel_rfl) (fun wv hS => by obtain ⟨s0, s1, s2, s3, s4, s5, s6, s7, s8⟩ := hS; go_simp; try with_reducible rfl) ?_)
  try simp only [Act.put, List.getElem_toArray, List.getElem_cons_succ, List.getElem_cons_zero, List.setIfInBounds_toArray, List.set_cons_zero, List.set_cons_succ]
  first | (refine WkT.skip (m := 15) (k := 16) rfl (by rfl) ?_) | (refine WkT.pure (m := 15) (k := 16) (v := _) rfl (by rfl) (fun wv => by go_simp; try with_reducible rfl) ?_) | (refine WkT.step (m := 15) (k := 16) (v := _) rfl (by rfl) (by kernel_rfl) (fun wv hS => by obtain ⟨s0, s1, s2, s3, s4, s5, s6, s7, s8⟩ := hS; go_simp; try with_reducible rfl) ?_)
  try simp only [Act.put, List.getElem_toArray, List.getElem_cons_succ, List.getElem_cons_zero, List.setIfInBounds_toArray, List.set_cons_zero, List.set_cons_succ]
  first | (refine WkT.skip (m := 14) (k := 17) rfl (by rfl) ?_) | (refine WkT.pure (m := 14) (k := 17) (v := _) rfl (by rfl) (fun wv => by go_simp; try with_reducible rfl) ?_) | (refine WkT.step (m := 14) (k := 17) (v := _) rfl (by rfl) (by kernel_rfl) (fun wv hS => by obtain ⟨s0, s1, s2, s3, s4, s5, s6, s7, s8⟩ := hS; go_simp; try with_reducible rfl) ?_)
  try simp only [Act.put, List.getElem_toArray, List.getElem_cons_succ, List.getElem_cons_zero, List.setIfInBounds_toArray, List.set_cons_zero, List.set_cons_succ]
  first | (refine WkT.skip (m := 13) (k := 18) rfl (by rfl) ?_) | (refine WkT.pure (m := 13) (k := 18) (v := _) rfl (by rfl) (fun wv => by go_simp; try with_reducible rfl) ?_) | (refine WkT.step (m := 13) (k := 18) (v := _) rfl (by rfl) (by kernel_rfl) (fun wv hS => by obtain ⟨s0, s1, s2, s3, s4, s5, s6, s7, s8⟩ := hS; go_simp; try with_reducible rfl) ?_)
  try simp only [Act.put, List.getElem_toArray, List.getElem_cons_succ, List.getElem_cons_zero, List.setIfInBounds_toArray, List.set_cons_zero, List.set_cons_succ]
  first | (refine WkT.skip (m := 12) (k := 19) rfl (by rfl) ?_) | (refine WkT.pure (m := 12) (k := 19) (v := _) rfl (by rfl) (fun wv => by go_simp; try with_reducible rfl) ?_) | (refine WkT.step (m := 12) (k := 19) (v := _) rfl (by rfl) (by kernel_rfl) (fun wv hS => by obtain ⟨s0, s1, s2, s3, s4, s5, s6, s7, s8⟩ := hS; go_simp; try with_reducible rfl) ?_)
  try simp only [Act.put, List.getElem_toArray, List.getElem_cons_succ, List.getElem_cons_zero, List.setIfInBounds_toArray, List.set_cons_zero, List.set_cons_succ]
  first | (refine WkT.skip (m := 11) (k := 20) rfl (by rfl) ?_) | (refine WkT.pure (m := 11) (k := 20) (v := _) rfl (by rfl) (fun wv => by go_simp; try with_reducible rfl) ?_) | (refine WkT.step (m := 11) (k := 20) (v := _) rfl (by rfl) (by kernel_rfl) (fun wv hS => by obtain ⟨s0, s1, s2, s3, s4, s5, s6, s7, s8⟩ := hS; go_simp; try with_reducible rfl) ?_)
  try simp only [Act.put, List.getElem_toArray, List.getElem_cons_succ, List.getElem_cons_zero, List.setIfInBounds_toArray, List.set_cons_zero, List.set_cons_succ]
  first | (refine WkT.skip (m := 10) (k := 21) rfl (by rfl) ?_) | (refine WkT.pure (m := 10) (k := 21) (v := _) rfl (by rfl) (fun wv => by go_simp; try with_reducible rfl) ?_) | (refine WkT.step (m := 10) (k := 21) (v := _) rfl (by rfl) (by kernel_rfl) (fun wv hS => by obtain ⟨s0, s1, s2, s3, s4, s5, s6, s7, s8⟩ := hS; go_simp; try with_reducible rfl) ?_)
  try simp only [Act.put, List.getElem_toArray, List.getElem_cons_succ, List.getElem_cons_zero, List.setIfInBounds_toArray, List.set_cons_zero, List.set_cons_succ]
  first | (refine WkT.skip (m := 9) (k := 22) rfl (by rfl) ?_) | (refine WkT.pure (m := 9) (k := 22) (v := _) rfl (by rfl) (fun wv => by go_simp; try with_reducible rfl) ?_) | (refine WkT.step (m := 9) (k := 22) (v := _) rfl (by rfl) (by kernel_rfl) (fun wv hS => by obtain ⟨s0, s1, s2, s3, s4, s5, s6, s7, s8⟩ := hS; go_simp; try with_reducible rfl) ?_)
  try simp only [Act.put, List.getElem_toArray, List.getElem_cons_succ, List.getElem_cons_zero, List.setIfInBounds_toArray, List.set_cons_zero, List.set_cons_succ]
  first | (refine WkT.skip (m := 8) (k := 23) rfl (by rfl) ?_) | (refine WkT.pure (m := 8) (k := 23) (v := _) rfl (by rfl) (fun wv => by go_simp; try with_reducible rfl) ?_) | (refine WkT.step (m := 8) (k := 23) (v := _) rfl (by rfl) (by kernel_rfl) (fun wv hS => by obtain ⟨s0, s1, s2, s3, s4, s5, s6, s7, s8⟩ := hS; go_simp; try with_reducible rfl) ?_)
  try simp only [Act.put, List.getElem_toArray, List.getElem_cons_succ, List.getElem_cons_zero, List.setIfInBounds_toArray, List.set_cons_zero, List.set_cons_succ]
  first | (refine WkT.skip (m := 7) (k := 24) rfl (by rfl) ?_) | (refine WkT.pure (m := 7) (k := 24) (v := _) rfl (by rfl) (fun wv => by go_simp; try with_reducible rfl) ?_) | (refine WkT.step (m := 7) (k := 24) (v := _) rfl (by rfl) (by kernel_rfl) (fun wv hS => by obtain ⟨s0, s1, s2, s3, s4, s5, s6, s7, s8⟩ := hS; go_simp; try with_reducible rfl) ?_)
  try simp only [Act.put, List.getElem_toArray, List.getElem_cons_succ, List.getElem_cons_zero, List.setIfInBounds_toArray, List.set_cons_zero, List.set_cons_succ]
  first | (refine WkT.skip (m := 6) (k := 25) rfl (by rfl) ?_) | (refine WkT.pure (m := 6) (k := 25) (v := _) rfl (by rfl) (fun wv => by go_simp; try with_reducible rfl) ?_) | (refine WkT.step (m := 6) (k := 25) (v := _) rfl (by rfl) (by kernel_rfl) (fun wv hS => by obtain ⟨s0, s1, s2, s3, s4, s5, s6, s7, s8⟩ := hS; go_simp; try with_reducible rfl) ?_)
  try simp only [Act.put, List.getElem_toArray, List.getElem_cons_succ, List.getElem_cons_zero, List.setIfInBounds_toArray, List.set_cons_zero, List.set_cons_succ]
  first | (refine WkT.skip (m := 5) (k := 26) rfl (by rfl) ?_) | (refine WkT.pure (m := 5) (k := 26) (v := _) rfl (by rfl) (fun wv => by go_simp; try with_reducible rfl) ?_) | (refine WkT.step (m := 5) (k := 26) (v := _) rfl (by rfl) (by kernel_rfl) (fun wv hS => by obtain ⟨s0, s1, s2, s3, s4, s5, s6, s7, s8⟩ := hS; go_simp; try with_reducible rfl) ?_)
  try simp only [Act.put, List.getElem_toArray, List.getElem_cons_succ, List.getElem_cons_zero, List.setIfInBounds_toArray, List.set_cons_zero, List.set_cons_succ]
  first | (refine WkT.skip (m := 4) (k := 27) rfl (by rfl) ?_) | (refine WkT.pure (m := 4) (k := 27) (v := _) rfl (by rfl) (fun wv => by go_simp; try with_reducible rfl) ?_) | (refine WkT.step (m := 4) (k := 27) (v := _) rfl (by rfl) (by kernel_rfl) (fun wv hS => by obtain ⟨s0, s1, s2, s3, s4, s5, s6, s7, s8⟩ := hS; go_simp; try with_reducible rfl) ?_)
  try simp only [Act.put, List.getElem_toArray, List.getElem_cons_succ, List.getElem_cons_zero, List.setIfInBounds_toArray, List.set_cons_zero, List.set_cons_succ]
  first | (refine WkT.skip (m := 3) (k := 28) rfl (by rfl) ?_) | (refine WkT.pure (m := 3) (k := 28) (v := _) rfl (by rfl) (fun wv => by go_simp; try with_reducible rfl) ?_) | (refine WkT.step (m := 3) (k := 28) (v := _) rfl (by rfl) (by kernel_rfl) (fun wv hS => by obtain ⟨s0, s1, s2, s3, s4, s5, s6, s7, s8⟩ := hS; go_simp; try with_reducible rfl) ?_)
  try simp only [Act.put, List.getElem_toArray, List.getElem_cons_succ, List.getElem_cons_zero, List.setIfInBounds_toArray, List.set_cons_zero, List.set_cons_succ]
  first | (refine WkT.skip (m := 2) (k := 29) rfl (by rfl) ?_) | (refine WkT.pure (m := 2) (k := 29) (v := _) rfl (by rfl) (fun wv => by go_simp; try with_reducible rfl) ?_) | (refine WkT.step (m := 2) (k := 29) (v := _) rfl (by rfl) (by kernel_rfl) (fun wv hS => by obtain ⟨s0, s1, s2, s3, s4, s5, s6, s7, s8⟩ := hS; go_simp; try with_reducible rfl) ?_)
  try simp only [Act.put, List.getElem_toArray, List.getElem_cons_succ, List.getElem_cons_zero, List.setIfInBounds_toArray, List.set_cons_zero, List.set_cons_succ]
  first | (refine WkT.skip (m := 1) (k := 30) rfl (by rfl) ?_) | (refine WkT.pure (m := 1) (k := 30) (v := _) rfl (by rfl) (fun wv => by go_simp; try with_reducible rfl) ?_) | (refine WkT.step (m := 1) (k := 30) (v := _) rfl (by rfl) (by kernel_rfl) (fun wv hS => by obtain ⟨s0, s1, s2, s3, s4, s5, s6, s7, s8⟩ := hS; go_simp; try with_reducible rfl) ?_)
  try simp only [Act.put, List.getElem_toArray, List.getElem_cons_succ, List.getElem_cons_zero, List.setIfInBounds_toArray, List.set_cons_zero, List.set_cons_succ]
  first | (refine WkT.skip (m := 0) (k := 31) rfl (by rfl) ?_) | (refine WkT.pure (m := 0) (k := 31) (v := _) rfl (by rfl) (fun wv => by go_simp; try with_reducible rfl) ?_) | (refine WkT.step (m := 0) (k := 31) (v := _) rfl (by rfl) (by kernel_rfl) (fun wv hS => by obtain ⟨s0, s1, s2, s3, s4, s5, s6, s7, s8⟩ := hS; go_simp; try with_reducible rfl) ?_)
  try simp only [Act.put, List.getElem_toArray, List.getElem_cons_succ, List.getElem_cons_zero, List.setIfInBounds_toArray, List.set_cons_zero, List.set_cons_succ]
  refine WkT.done fun wE hE => ?_
  clear u0 u1 u2 u4 u5 u6 u7 u8
  obtain ⟨mE, u0, u1, u2, u4, u5, u6, u7, u8⟩ := hE
  simp only [List.drop_succ_cons, List.drop_zero]
  go_wp2_with fail
  simp only [noPan]
  go_wp2_with fail
  go_ret
  exact ⟨_, rfl, lit_has wE _ [x0, x1, x2, x4, x5, x6, x7, x8] 8 rfl, mE.new _⟩

set_option maxRecDepth 100000 in
set_option maxHeartbeats 4000000 in
theorem implEqPk (x0 x1 x2 x4 x5 x6 x7 x8 y0 y1 y2 y4 y5 y6 y7 y8 : Int) (a3 a3' : Option Addr) (n3 n3' c3 c3' : Nat) (z3 z3' : List TPathPart) (a9 a9' : Option Addr) (n9 n9' c9 c9' : Nat) (z9 z9' : List Int) (B B' : Nat) (w : World) (h3 : HasPathPart w B a3 n3 z3) (h9 : HasByte w B a9 n9 z9) (h3' : HasPathPart w B' a3' n3' z3') (h9' : HasByte w B' a9' n9' z9') (hB : B ≤ w.heap.size) (hB' : B' ≤ w.heap.size) (hn3 : szPathPart z3 n3 ≤ 1048576) (hn9 : n9 ≤ 1048576) (hn3' : szPathPart z3' n3' ≤ 1048576) (hn9' : n9' ≤ 1048576) :
    Calls Try.prog 27 #[.agg #[.int .i64 x0, .int .i64 x1, .int .i64 x2, .slice a3 n3 c3, .int .i64 x4, .int .i64 x5, .int .i64 x6, .int .i64 x7, .int .i64 x8, .slice a9 n9 c9], .agg #[.int .i64 y0, .int .i64 y1, .int .i64 y2, .slice a3' n3' c3', .int .i64 y4, .int .i64 y5, .int .i64 y6, .int .i64 y7, .int .i64 y8, .slice a9' n9' c9']] w fun e w' => e = .returned (.bool (eqPkB x0 x1 x2 x4 x5 x6 x7 x8 y0 y1 y2 y4 y5 y6 y7 y8 n3 n3' z3 z3' z9 z9')) ∧ Mk0 w w' := by
  have M0 := (Mk.alloc w (Obj.cells #[Value.int .i64 x0, Value.int .i64 x1, Value.int .i64 x2, Value.slice a3 n3 c3, Value.int .i64 x4, Value.int .i64 x5, Value.int .i64 x6, Value.int .i64 x7, Value.int .i64 x8, Value.slice a9 n9 c9] 40)).new (Obj.cells #[Value.int .i64 y0, Value.int .i64 y1, Value.int .i64 y2, Value.slice a3' n3' c3', Value.int .i64 y4, Value.int .i64 y5, Value.int .i64 y6, Value.int .i64 y7, Value.int .i64 y8, Value.slice a9' n9' c9'] 40)
  have u0 : ((w.alloc (Obj.cells #[Value.int .i64 x0, Value.int .i64 x1, Value.int .i64 x2, Value.slice a3 n3 c3, Value.int .i64 x4, Value.int .i64 x5, Value.int .i64 x6, Value.int .i64 x7, Value.int .i64 x8, Value.slice a9 n9 c9] 40)).alloc (Obj.cells #[Value.int .i64 y0, Value.int .i64 y1, Value.int .i64 y2, Value.slice a3' n3' c3', Value.int .i64 y4, Value.int .i64 y5, Value.int .i64 y6, Value.int .i64 y7, Value.int .i64 y8, Value.slice a9' n9' c9'] 40)).cell? ⟨w.heap.size, 0, none⟩ = some (.int .i64 x0) := by simp [go_sem]
  have u1 : ((w.alloc (Obj.cells #[Value.int .i64 x0, Value.int .i64 x1, Value.int .i64 x2, Value.slice a3 n3 c3, Value.int .i64 x4, Value.int .i64 x5, Value.int .i64 x6, Value.int .i64 x7, Value.int .i64 x8, Value.slice a9 n9 c9] 40)).alloc (Obj.cells #[Value.int .i64 y0, Value.int .i64 y1, Value.int .i64 y2, Value.slice a3' n3' c3', Value.int .i64 y4, Value.int .i64 y5, Value.int .i64 y6, Value.int .i64 y7, Value.int .i64 y8, Value.slice a9' n9' c9'] 40)).cell? ⟨w.heap.size, 1, none⟩ = some (.int .i64 x1) := by simp [go_sem]
  have u2 : ((w.alloc (Obj.cells #[Value.int .i64 x0, Value.int .i64 x1, Value.int .i64 x2, Value.slice a3 n3 c3, Value.int .i64 x4, Value.int .i64 x5, Value.int .i64 x6, Value.int .i64 x7, Value.int .i64 x8, Value.slice a9 n9 c9] 40)).alloc (Obj.cells #[Value.int .i64 y0, Value.int .i64 y1, Value.int .i64 y2, Value.slice a3' n3' c3', Value.int .i64 y4, Value.int .i64 y5, Value.int .i64 y6, Value.int .i64 y7, Value.int .i64 y8, Value.slice a9' n9' c9'] 40)).cell? ⟨w.heap.size, 2, none⟩ = some (.int .i64 x2) := by simp [go_sem]
  have u3 : ((w.alloc (Obj.cells #[Value.int .i64 x0, Value.int .i64 x1, Value.int .i64 x2, Value.slice a3 n3 c3, Value.int .i64 x4, Value.int .i64 x5, Value.int .i64 x6, Value.int .i64 x7, Value.int .i64 x8, Value.slice a9 n9 c9] 40)).alloc (Obj.cells #[Value.int .i64 y0, Value.int .i64 y1, Value.int .i64 y2, Value.slice a3' n3' c3', Value.int .i64 y4, Value.int .i64 y5, Value.int .i64 y6, Value.int .i64 y7, Value.int .i64 y8, Value.slice a9' n9' c9'] 40)).cell? ⟨w.heap.size, 3, none⟩ = some (.slice a3 n3 c3) := by simp [go_sem]
  have u4 : ((w.alloc (Obj.cells #[Value.int .i64 x0, Value.int .i64 x1, Value.int .i64 x2, Value.slice a3 n3 c3, Value.int .i64 x4, Value.int .i64 x5, Value.int .i64 x6, Value.int .i64 x7, Value.int .i64 x8, Value.slice a9 n9 c9] 40)).alloc (Obj.cells #[Value.int .i64 y0, Value.int .i64 y1, Value.int .i64 y2, Value.slice a3' n3' c3', Value.int .i64 y4, Value.int .i64 y5, Value.int .i64 y6, Value.int .i64 y7, Value.int .i64 y8, Value.slice a9' n9' c9'] 40)).cell? ⟨w.heap.size, 4, none⟩ = some (.int .i64 x4) := by simp [go_sem]
  have u5 : ((w.alloc (Obj.cells #[Value.int .i64 x0, Value.int .i64 x1, Value.int .i64 x2, Value.slice a3 n3 c3, Value.int .i64 x4, Value.int .i64 x5, Value.int .i64 x6, Value.int .i64 x7, Value.int .i64 x8, Value.slice a9 n9 c9] 40)).alloc (Obj.cells #[Value.int .i64 y0, Value.int .i64 y1, Value.int .i64 y2, Value.slice a3' n3' c3', Value.int .i64 y4, Value.int .i64 y5, Value.int .i64 y6, Value.int .i64 y7, Value.int .i64 y8, Value.slice a9' n9' c9'] 40)).cell? ⟨w.heap.size, 5, none⟩ = some (.int .i64 x5) := by simp [go_sem]
  have u6 : ((w.alloc (Obj.cells #[Value.int .i64 x0, Value.int .i64 x1, Value.int .i64 x2, Value.slice a3 n3 c3, Value.int .i64 x4, Value.int .i64 x5, Value.int .i64 x6, Value.int .i64 x7, Value.int .i64 x8, Value.slice a9 n9 c9] 40)).alloc (Obj.cells #[Value.int .i64 y0, Value.int .i64 y1, Value.int .i64 y2, Value.slice a3' n3' c3', Value.int .i64 y4, Value.int .i64 y5, Value.int .i64 y6, Value.int .i64 y7, Value.int .i64 y8, Value.slice a9' n9' c9'] 40)).cell? ⟨w.heap.size, 6, none⟩ = some (.int .i64 x6) := by simp [go_sem]
  have u7 : ((w.alloc (Obj.cells #[Value.int .i64 x0, Value.int .i64 x1, Value.int .i64 x2, Value.slice a3 n3 c3, Value.int .i64 x4, Value.int .i64 x5, Value.int .i64 x6, Value.int .i64 x7, Value.int .i64 x8, Value.slice a9 n9 c9] 40)).alloc (Obj.cells #[Value.int .i64 y0, Value.int .i64 y1, Value.int .i64 y2, Value.slice a3' n3' c3', Value.int .i64 y4, Value.int .i64 y5, Value.int .i64 y6, Value.int .i64 y7, Value.int .i64 y8, Value.slice a9' n9' c9'] 40)).cell? ⟨w.heap.size, 7, none⟩ = some (.int .i64 x7) := by simp [go_sem]
  have u8 : ((w.alloc (Obj.cells #[Value.int .i64 x0, Value.int .i64 x1, Value.int .i64 x2, Value.slice a3 n3 c3, Value.int .i64 x4, Value.int .i64 x5, Value.int .i64 x6, Value.int .i64 x7, Value.int .i64 x8, Value.slice a9 n9 c9] 40)).alloc (Obj.cells #[Value.int .i64 y0, Value.int .i64 y1, Value.int .i64 y2, Value.slice a3' n3' c3', Value.int .i64 y4, Value.int .i64 y5, Value.int .i64 y6, Value.int .i64 y7, Value.int .i64 y8, Value.slice a9' n9' c9'] 40)).cell? ⟨w.heap.size, 8, none⟩ = some (.int .i64 x8) := by simp [go_sem]
  have u9 : ((w.alloc (Obj.cells #[Value.int .i64 x0, Value.int .i64 x1, Value.int .i64 x2, Value.slice a3 n3 c3, Value.int .i64 x4, Value.int .i64 x5, Value.int .i64 x6, Value.int .i64 x7, Value.int .i64 x8, Value.slice a9 n9 c9] 40)).alloc (Obj.cells #[Value.int .i64 y0, Value.int .i64 y1, Value.int .i64 y2, Value.slice a3' n3' c3', Value.int .i64 y4, Value.int .i64 y5, Value.int .i64 y6, Value.int .i64 y7, Value.int .i64 y8, Value.slice a9' n9' c9'] 40)).cell? ⟨w.heap.size, 9, none⟩ = some (.slice a9 n9 c9) := by simp [go_sem]
  have t0 : ((w.alloc (Obj.cells #[Value.int .i64 x0, Value.int .i64 x1, Value.int .i64 x2, Value.slice a3 n3 c3, Value.int .i64 x4, Value.int .i64 x5, Value.int .i64 x6, Value.int .i64 x7, Value.int .i64 x8, Value.slice a9 n9 c9] 40)).alloc (Obj.cells #[Value.int .i64 y0, Value.int .i64 y1, Value.int .i64 y2, Value.slice a3' n3' c3', Value.int .i64 y4, Value.int .i64 y5, Value.int .i64 y6, Value.int .i64 y7, Value.int .i64 y8, Value.slice a9' n9' c9'] 40)).cell? ⟨w.heap.size + 1, 0, none⟩ = some (.int .i64 y0) := by simp [go_sem]
  have t1 : ((w.alloc (Obj.cells #[Value.int .i64 x0, Value.int .i64 x1, Value.int .i64 x2, Value.slice a3 n3 c3, Value.int .i64 x4, Value.int .i64 x5, Value.int .i64 x6, Value.int .i64 x7, Value.int .i64 x8, Value.slice a9 n9 c9] 40)).alloc (Obj.cells #[Value.int .i64 y0, Value.int .i64 y1, Value.int .i64 y2, Value.slice a3' n3' c3', Value.int .i64 y4, Value.int .i64 y5, Value.int .i64 y6, Value.int .i64 y7, Value.int .i64 y8, Value.slice a9' n9' c9'] 40)).cell? ⟨w.heap.size + 1, 1, none⟩ = some (.int .i64 y1) := by simp [go_sem]
  have t2 : ((w.alloc (Obj.cells #[Value.int .i64 x0, Value.int .i64 x1, Value.int .i64 x2, Value.slice a3 n3 c3, Value.int .i64 x4, Value.int .i64 x5, Value.int .i64 x6, Value.int .i64 x7, Value.int .i64 x8, Value.slice a9 n9 c9] 40)).alloc (Obj.cells #[Value.int .i64 y0, Value.int .i64 y1, Value.int .i64 y2, Value.slice a3' n3' c3', Value.int .i64 y4, Value.int .i64 y5, Value.int .i64 y6, Value.int .i64 y7, Value.int .i64 y8, Value.slice a9' n9' c9'] 40)).cell? ⟨w.heap.size + 1, 2, none⟩ = some (.int .i64 y2) := by simp [go_sem]
  have t3 : ((w.alloc (Obj.cells #[Value.int .i64 x0, Value.int .i64 x1, Value.int .i64 x2, Value.slice a3 n3 c3, Value.int .i64 x4, Value.int .i64 x5, Value.int .i64 x6, Value.int .i64 x7, Value.int .i64 x8, Value.slice a9 n9 c9] 40)).alloc (Obj.cells #[Value.int .i64 y0, Value.int .i64 y1, Value.int .i64 y2, Value.slice a3' n3' c3', Value.int .i64 y4, Value.int .i64 y5, Value.int .i64 y6, Value.int .i64 y7, Value.int .i64 y8, Value.slice a9' n9' c9'] 40)).cell? ⟨w.heap.size + 1, 3, none⟩ = some (.slice a3' n3' c3') := by simp [go_sem]
  have t4 : ((w.alloc (Obj.cells #[Value.int .i64 x0, Value.int .i64 x1, Value.int .i64 x2, Value.slice a3 n3 c3, Value.int .i64 x4, Value.int .i64 x5, Value.int .i64 x6, Value.int .i64 x7, Value.int .i64 x8, Value.slice a9 n9 c9] 40)).alloc (Obj.cells #[Value.int .i64 y0, Value.int .i64 y1, Value.int .i64 y2, Value.slice a3' n3' c3', Value.int .i64 y4, Value.int .i64 y5, Value.int .i64 y6, Value.int .i64 y7, Value.int .i64 y8, Value.slice a9' n9' c9'] 40)).cell? ⟨w.heap.size + 1, 4, none⟩ = some (.int .i64 y4) := by simp [go_sem]
  have t5 : ((w.alloc (Obj.cells #[Value.int .i64 x0, Value.int .i64 x1, Value.int .i64 x2, Value.slice a3 n3 c3, Value.int .i64 x4, Value.int .i64 x5, Value.int .i64 x6, Value.int .i64 x7, Value.int .i64 x8, Value.slice a9 n9 c9] 40)).alloc (Obj.cells #[Value.int .i64 y0, Value.int .i64 y1, Value.int .i64 y2, Value.slice a3' n3' c3', Value.int .i64 y4, Value.int .i64 y5, Value.int .i64 y6, Value.int .i64 y7, Value.int .i64 y8, Value.slice a9' n9' c9'] 40)).cell? ⟨w.heap.size + 1, 5, none⟩ = some (.int .i64 y5) := by simp [go_sem]
  have t6 : ((w.alloc (Obj.cells #[Value.int .i64 x0, Value.int .i64 x1, Value.int .i64 x2, Value.slice a3 n3 c3, Value.int .i64 x4, Value.int .i64 x5, Value.int .i64 x6, Value.int .i64 x7, Value.int .i64 x8, Value.slice a9 n9 c9] 40)).alloc (Obj.cells #[Value.int .i64 y0, Value.int .i64 y1, Value.int .i64 y2, Value.slice a3' n3' c3', Value.int .i64 y4, Value.int .i64 y5, Value.int .i64 y6, Value.int .i64 y7, Value.int .i64 y8, Value.slice a9' n9' c9'] 40)).cell? ⟨w.heap.size + 1, 6, none⟩ = some (.int .i64 y6) := by simp [go_sem]
  have t7 : ((w.alloc (Obj.cells #[Value.int .i64 x0, Value.int .i64 x1, Value.int .i64 x2, Value.slice a3 n3 c3, Value.int .i64 x4, Value.int .i64 x5, Value.int .i64 x6, Value.int .i64 x7, Value.int .i64 x8, Value.slice a9 n9 c9] 40)).alloc (Obj.cells #[Value.int .i64 y0, Value.int .i64 y1, Value.int .i64 y2, Value.slice a3' n3' c3', Value.int .i64 y4, Value.int .i64 y5, Value.int .i64 y6, Value.int .i64 y7, Value.int .i64 y8, Value.slice a9' n9' c9'] 40)).cell? ⟨w.heap.size + 1, 7, none⟩ = some (.int .i64 y7) := by simp [go_sem]
  have t8 : ((w.alloc (Obj.cells #[Value.int .i64 x0, Value.int .i64 x1, Value.int .i64 x2, Value.slice a3 n3 c3, Value.int .i64 x4, Value.int .i64 x5, Value.int .i64 x6, Value.int .i64 x7, Value.int .i64 x8, Value.slice a9 n9 c9] 40)).alloc (Obj.cells #[Value.int .i64 y0, Value.int .i64 y1, Value.int .i64 y2, Value.slice a3' n3' c3', Value.int .i64 y4, Value.int .i64 y5, Value.int .i64 y6, Value.int .i64 y7, Value.int .i64 y8, Value.slice a9' n9' c9'] 40)).cell? ⟨w.heap.size + 1, 8, none⟩ = some (.int .i64 y8) := by simp [go_sem]
  have t9 : ((w.alloc (Obj.cells #[Value.int .i64 x0, Value.int .i64 x1, Value.int .i64 x2, Value.slice a3 n3 c3, Value.int .i64 x4, Value.int .i64 x5, Value.int .i64 x6, Value.int .i64 x7, Value.int .i64 x8, Value.slice a9 n9 c9] 40)).alloc (Obj.cells #[Value.int .i64 y0, Value.int .i64 y1, Value.int .i64 y2, Value.slice a3' n3' c3', Value.int .i64 y4, Value.int .i64 y5, Value.int .i64 y6, Value.int .i64 y7, Value.int .i64 y8, Value.slice a9' n9' c9'] 40)).cell? ⟨w.heap.size + 1, 9, none⟩ = some (.slice a9' n9' c9') := by simp [go_sem]
  go_enter Try.func27, Try.ntmps27
  go_wp2_with fail
  refine (implHdr w.heap.size x0 x1 x2 x4 x5 x6 x7 x8 _ u0 u1 u2 u4 u5 u6 u7 u8).mono ?_
  rintro e w1 ⟨b1, rfl, hh1, m1⟩
  replace u0 := m1.cellAt u0
  replace u1 := m1.cellAt u1
  replace u2 := m1.cellAt u2
  replace u3 := m1.cellAt u3
  replace u4 := m1.cellAt u4
  replace u5 := m1.cellAt u5
  replace u6 := m1.cellAt u6
  replace u7 := m1.cellAt u7
  replace u8 := m1.cellAt u8
  replace u9 := m1.cellAt u9
  replace t0 := m1.cellAt t0
  replace t1 := m1.cellAt t1
  replace t2 := m1.cellAt t2
  replace t3 := m1.cellAt t3
  replace t4 := m1.cellAt t4
  replace t5 := m1.cellAt t5
  replace t6 := m1.cellAt t6
  replace t7 := m1.cellAt t7
  replace t8 := m1.cellAt t8
  replace t9 := m1.cellAt t9
  have M1 := M0.trans m1
  go_wp2_with fail
  refine (implHdr (w.heap.size + 1) y0 y1 y2 y4 y5 y6 y7 y8 _ t0 t1 t2 t4 t5 t6 t7 t8).mono ?_
  rintro e w2 ⟨b2, rfl, hh2, m2⟩
  replace u0 := m2.cellAt u0
  replace u1 := m2.cellAt u1
  replace u2 := m2.cellAt u2
  replace u3 := m2.cellAt u3
  replace u4 := m2.cellAt u4
  replace u5 := m2.cellAt u5
  replace u6 := m2.cellAt u6
  replace u7 := m2.cellAt u7
  replace u8 := m2.cellAt u8
  replace u9 := m2.cellAt u9
  replace t0 := m2.cellAt t0
  replace t1 := m2.cellAt t1
  replace t2 := m2.cellAt t2
  replace t3 := m2.cellAt t3
  replace t4 := m2.cellAt t4
  replace t5 := m2.cellAt t5
  replace t6 := m2.cellAt t6
  replace t7 := m2.cellAt t7
  replace t8 := m2.cellAt t8
  replace t9 := m2.cellAt t9
  have M2 := M1.trans m2
  have hh1' := hh1.next m2.below0
  go_wp2_with fail
  refine (slicesEqualInt _ _ 8 8 8 8 _ _ _ _ _ hh1' hh2 (by omega) (by omega)).mono ?_
  rintro e w3 ⟨he, mm, hw3⟩
  have m3 : Mk0 w2 w3 := by rw [hw3]; exact Mk.drewN _ _
  clear hw3
  replace u0 := m3.cellAt u0
  replace u1 := m3.cellAt u1
  replace u2 := m3.cellAt u2
  replace u3 := m3.cellAt u3
  replace u4 := m3.cellAt u4
  replace u5 := m3.cellAt u5
  replace u6 := m3.cellAt u6
  replace u7 := m3.cellAt u7
  replace u8 := m3.cellAt u8
  replace u9 := m3.cellAt u9
  replace t0 := m3.cellAt t0
  replace t1 := m3.cellAt t1
  replace t2 := m3.cellAt t2
  replace t3 := m3.cellAt t3
  replace t4 := m3.cellAt t4
  replace t5 := m3.cellAt t5
  replace t6 := m3.cellAt t6
  replace t7 := m3.cellAt t7
  replace t8 := m3.cellAt t8
  replace t9 := m3.cellAt t9
  have M3 := M2.trans m3
  cases hv : eqB [x0, x1, x2, x4, x5, x6, x7, x8] [y0, y1, y2, y4, y5, y6, y7, y8]
  · rw [hv] at he
    subst he
    have H1 := Lib.hid hv
    clear hv hh1 hh2 hh1'
    go_wp2_with fail
    go_ret
    exact ⟨retB (by unfold eqPkB; simp [H1.out]), M3⟩
  · rw [hv] at he
    subst he
    have H1 := Lib.hid hv
    clear hv hh1 hh2 hh1'
    go_wp2_with fail
    refine (slicesEqualByte a9 a9' n9 n9' c9 c9' B B' z9 z9' _ (hasR_int.1 (h9.mk M3 hB (.inr (Nat.le_refl _)))) (hasR_int.1 (h9'.mk M3 hB' (.inr (Nat.le_refl _)))) (by omega) (by omega)).mono ?_
    rintro e w4 ⟨he, mm4, hw4⟩
    have m4 : Mk0 w3 w4 := by rw [hw4]; exact Mk.drewN _ _
    clear hw4
    replace u0 := m4.cellAt u0
    replace u1 := m4.cellAt u1
    replace u2 := m4.cellAt u2
    replace u3 := m4.cellAt u3
    replace u4 := m4.cellAt u4
    replace u5 := m4.cellAt u5
    replace u6 := m4.cellAt u6
    replace u7 := m4.cellAt u7
    replace u8 := m4.cellAt u8
    replace u9 := m4.cellAt u9
    replace t0 := m4.cellAt t0
    replace t1 := m4.cellAt t1
    replace t2 := m4.cellAt t2
    replace t3 := m4.cellAt t3
    replace t4 := m4.cellAt t4
    replace t5 := m4.cellAt t5
    replace t6 := m4.cellAt t6
    replace t7 := m4.cellAt t7
    replace t8 := m4.cellAt t8
    replace t9 := m4.cellAt t9
    have M4 := M3.trans m4
    cases hv : eqB z9 z9'
    · rw [hv] at he
      subst he
      have H2 := Lib.hid hv
      clear hv
      go_wp2_with fail
      go_ret
      exact ⟨retB (by unfold eqPkB; simp [H2.out]), M4⟩
    · rw [hv] at he
      subst he
      have H2 := Lib.hid hv
      clear hv
      go_wp2_with fail
      refine (implEqPaths a3 a3' n3 n3' c3 c3' B B' z3 z3' _ (h3.mk M4 hB (.inr (Nat.le_refl _))) (h3'.mk M4 hB' (.inr (Nat.le_refl _))) (Nat.le_trans hB M4.size) (Nat.le_trans hB' M4.size) hn3 hn3').mono ?_
      rintro e w5 ⟨rfl, m5⟩
      go_wp2_with fail
      go_ret
      exact ⟨retB (by unfold eqPkB; rw [H1.out, H2.out]; rfl), M4.trans m5⟩

set_option maxRecDepth 100000 in
set_option maxHeartbeats 4000000 in
theorem specEqPk (x0 x1 x2 x4 x5 x6 x7 x8 y0 y1 y2 y4 y5 y6 y7 y8 : Int) (a3 a3' : Option Addr) (n3 n3' c3 c3' : Nat) (z3 z3' : List TPathPart) (a9 a9' : Option Addr) (n9 n9' c9 c9' : Nat) (z9 z9' : List Int) (B B' : Nat) (w : World) (h3 : HasPathPart w B a3 n3 z3) (h9 : HasByte w B a9 n9 z9) (h3' : HasPathPart w B' a3' n3' z3') (h9' : HasByte w B' a9' n9' z9') (hB : B ≤ w.heap.size) (hB' : B' ≤ w.heap.size) (hn3 : szPathPart z3 n3 ≤ 1048576) (hn9 : n9 ≤ 1048576) (hn3' : szPathPart z3' n3' ≤ 1048576) (hn9' : n9' ≤ 1048576) (hx9 : ∀ z ∈ z9, (Lit.int .u8 z).wf = true) (hy9 : ∀ z ∈ z9', (Lit.int .u8 z).wf = true) :
    Calls Try.prog 26 #[.agg #[.int .i64 x0, .int .i64 x1, .int .i64 x2, .slice a3 n3 c3, .int .i64 x4, .int .i64 x5, .int .i64 x6, .int .i64 x7, .int .i64 x8, .slice a9 n9 c9], .agg #[.int .i64 y0, .int .i64 y1, .int .i64 y2, .slice a3' n3' c3', .int .i64 y4, .int .i64 y5, .int .i64 y6, .int .i64 y7, .int .i64 y8, .slice a9' n9' c9']] w fun e w' => e = .returned (.bool (eqPkB x0 x1 x2 x4 x5 x6 x7 x8 y0 y1 y2 y4 y5 y6 y7 y8 n3 n3' z3 z3' z9 z9')) ∧ Mk0 w w' := by
  have M0 := (Mk.alloc w (Obj.cells #[Value.int .i64 x0, Value.int .i64 x1, Value.int .i64 x2, Value.slice a3 n3 c3, Value.int .i64 x4, Value.int .i64 x5, Value.int .i64 x6, Value.int .i64 x7, Value.int .i64 x8, Value.slice a9 n9 c9] 40)).new (Obj.cells #[Value.int .i64 y0, Value.int .i64 y1, Value.int .i64 y2, Value.slice a3' n3' c3', Value.int .i64 y4, Value.int .i64 y5, Value.int .i64 y6, Value.int .i64 y7, Value.int .i64 y8, Value.slice a9' n9' c9'] 40)
  have u0 : ((w.alloc (Obj.cells #[Value.int .i64 x0, Value.int .i64 x1, Value.int .i64 x2, Value.slice a3 n3 c3, Value.int .i64 x4, Value.int .i64 x5, Value.int .i64 x6, Value.int .i64 x7, Value.int .i64 x8, Value.slice a9 n9 c9] 40)).alloc (Obj.cells #[Value.int .i64 y0, Value.int .i64 y1, Value.int .i64 y2, Value.slice a3' n3' c3', Value.int .i64 y4, Value.int .i64 y5, Value.int .i64 y6, Value.int .i64 y7, Value.int .i64 y8, Value.slice a9' n9' c9'] 40)).cell? ⟨w.heap.size, 0, none⟩ = some (.int .i64 x0) := by simp [go_sem]
  have u1 : ((w.alloc (Obj.cells #[Value.int .i64 x0, Value.int .i64 x1, Value.int .i64 x2, Value.slice a3 n3 c3, Value.int .i64 x4, Value.int .i64 x5, Value.int .i64 x6, Value.int .i64 x7, Value.int .i64 x8, Value.slice a9 n9 c9] 40)).alloc (Obj.cells #[Value.int .i64 y0, Value.int .i64 y1, Value.int .i64 y2, Value.slice a3' n3' c3', Value.int .i64 y4, Value.int .i64 y5, Value.int .i64 y6, Value.int .i64 y7, Value.int .i64 y8, Value.slice a9' n9' c9'] 40)).cell? ⟨w.heap.size, 1, none⟩ = some (.int .i64 x1) := by simp [go_sem]
  have u2 : ((w.alloc (Obj.cells #[Value.int .i64 x0, Value.int .i64 x1, Value.int .i64 x2, Value.slice a3 n3 c3, Value.int .i64 x4, Value.int .i64 x5, Value.int .i64 x6, Value.int .i64 x7, Value.int .i64 x8, Value.slice a9 n9 c9] 40)).alloc (Obj.cells #[Value.int .i64 y0, Value.int .i64 y1, Value.int .i64 y2, Value.slice a3' n3' c3', Value.int .i64 y4, Value.int .i64 y5, Value.int .i64 y6, Value.int .i64 y7, Value.int .i64 y8, Value.slice a9' n9' c9'] 40)).cell? ⟨w.heap.size, 2, none⟩ = some (.int .i64 x2) := by simp [go_sem]
  have u3 : ((w.alloc (Obj.cells #[Value.int .i64 x0, Value.int .i64 x1, Value.int .i64 x2, Value.slice a3 n3 c3, Value.int .i64 x4, Value.int .i64 x5, Value.int .i64 x6, Value.int .i64 x7, Value.int .i64 x8, Value.slice a9 n9 c9] 40)).alloc (Obj.cells #[Value.int .i64 y0, Value.int .i64 y1, Value.int .i64 y2, Value.slice a3' n3' c3', Value.int .i64 y4, Value.int .i64 y5, Value.int .i64 y6, Value.int .i64 y7, Value.int .i64 y8, Value.slice a9' n9' c9'] 40)).cell? ⟨w.heap.size, 3, none⟩ = some (.slice a3 n3 c3) := by simp [go_sem]
  have u4 : ((w.alloc (Obj.cells #[Value.int .i64 x0, Value.int .i64 x1, Value.int .i64 x2, Value.slice a3 n3 c3, Value.int .i64 x4, Value.int .i64 x5, Value.int .i64 x6, Value.int .i64 x7, Value.int .i64 x8, Value.slice a9 n9 c9] 40)).alloc (Obj.cells #[Value.int .i64 y0, Value.int .i64 y1, Value.int .i64 y2, Value.slice a3' n3' c3', Value.int .i64 y4, Value.int .i64 y5, Value.int .i64 y6, Value.int .i64 y7, Value.int .i64 y8, Value.slice a9' n9' c9'] 40)).cell? ⟨w.heap.size, 4, none⟩ = some (.int .i64 x4) := by simp [go_sem]
  have u5 : ((w.alloc (Obj.cells #[Value.int .i64 x0, Value.int .i64 x1, Value.int .i64 x2, Value.slice a3 n3 c3, Value.int .i64 x4, Value.int .i64 x5, Value.int .i64 x6, Value.int .i64 x7, Value.int .i64 x8, Value.slice a9 n9 c9] 40)).alloc (Obj.cells #[Value.int .i64 y0, Value.int .i64 y1, Value.int .i64 y2, Value.slice a3' n3' c3', Value.int .i64 y4, Value.int .i64 y5, Value.int .i64 y6, Value.int .i64 y7, Value.int .i64 y8, Value.slice a9' n9' c9'] 40)).cell? ⟨w.heap.size, 5, none⟩ = some (.int .i64 x5) := by simp [go_sem]
  have u6 : ((w.alloc (Obj.cells #[Value.int .i64 x0, Value.int .i64 x1, Value.int .i64 x2, Value.slice a3 n3 c3, Value.int .i64 x4, Value.int .i64 x5, Value.int .i64 x6, Value.int .i64 x7, Value.int .i64 x8, Value.slice a9 n9 c9] 40)).alloc (Obj.cells #[Value.int .i64 y0, Value.int .i64 y1, Value.int .i64 y2, Value.slice a3' n3' c3', Value.int .i64 y4, Value.int .i64 y5, Value.int .i64 y6, Value.int .i64 y7, Value.int .i64 y8, Value.slice a9' n9' c9'] 40)).cell? ⟨w.heap.size, 6, none⟩ = some (.int .i64 x6) := by simp [go_sem]
  have u7 : ((w.alloc (Obj.cells #[Value.int .i64 x0, Value.int .i64 x1, Value.int .i64 x2, Value.slice a3 n3 c3, Value.int .i64 x4, Value.int .i64 x5, Value.int .i64 x6, Value.int .i64 x7, Value.int .i64 x8, Value.slice a9 n9 c9] 40)).alloc (Obj.cells #[Value.int .i64 y0, Value.int .i64 y1, Value.int .i64 y2, Value.slice a3' n3' c3', Value.int .i64 y4, Value.int .i64 y5, Value.int .i64 y6, Value.int .i64 y7, Value.int .i64 y8, Value.slice a9' n9' c9'] 40)).cell? ⟨w.heap.size, 7, none⟩ = some (.int .i64 x7) := by simp [go_sem]
  have u8 : ((w.alloc (Obj.cells #[Value.int .i64 x0, Value.int .i64 x1, Value.int .i64 x2, Value.slice a3 n3 c3, Value.int .i64 x4, Value.int .i64 x5, Value.int .i64 x6, Value.int .i64 x7, Value.int .i64 x8, Value.slice a9 n9 c9] 40)).alloc (Obj.cells #[Value.int .i64 y0, Value.int .i64 y1, Value.int .i64 y2, Value.slice a3' n3' c3', Value.int .i64 y4, Value.int .i64 y5, Value.int .i64 y6, Value.int .i64 y7, Value.int .i64 y8, Value.slice a9' n9' c9'] 40)).cell? ⟨w.heap.size, 8, none⟩ = some (.int .i64 x8) := by simp [go_sem]
  have u9 : ((w.alloc (Obj.cells #[Value.int .i64 x0, Value.int .i64 x1, Value.int .i64 x2, Value.slice a3 n3 c3, Value.int .i64 x4, Value.int .i64 x5, Value.int .i64 x6, Value.int .i64 x7, Value.int .i64 x8, Value.slice a9 n9 c9] 40)).alloc (Obj.cells #[Value.int .i64 y0, Value.int .i64 y1, Value.int .i64 y2, Value.slice a3' n3' c3', Value.int .i64 y4, Value.int .i64 y5, Value.int .i64 y6, Value.int .i64 y7, Value.int .i64 y8, Value.slice a9' n9' c9'] 40)).cell? ⟨w.heap.size, 9, none⟩ = some (.slice a9 n9 c9) := by simp [go_sem]
  have t0 : ((w.alloc (Obj.cells #[Value.int .i64 x0, Value.int .i64 x1, Value.int .i64 x2, Value.slice a3 n3 c3, Value.int .i64 x4, Value.int .i64 x5, Value.int .i64 x6, Value.int .i64 x7, Value.int .i64 x8, Value.slice a9 n9 c9] 40)).alloc (Obj.cells #[Value.int .i64 y0, Value.int .i64 y1, Value.int .i64 y2, Value.slice a3' n3' c3', Value.int .i64 y4, Value.int .i64 y5, Value.int .i64 y6, Value.int .i64 y7, Value.int .i64 y8, Value.slice a9' n9' c9'] 40)).cell? ⟨w.heap.size + 1, 0, none⟩ = some (.int .i64 y0) := by simp [go_sem]
  have t1 : ((w.alloc (Obj.cells #[Value.int .i64 x0, Value.int .i64 x1, Value.int .i64 x2, Value.slice a3 n3 c3, Value.int .i64 x4, Value.int .i64 x5, Value.int .i64 x6, Value.int .i64 x7, Value.int .i64 x8, Value.slice a9 n9 c9] 40)).alloc (Obj.cells #[Value.int .i64 y0, Value.int .i64 y1, Value.int .i64 y2, Value.slice a3' n3' c3', Value.int .i64 y4, Value.int .i64 y5, Value.int .i64 y6, Value.int .i64 y7, Value.int .i64 y8, Value.slice a9' n9' c9'] 40)).cell? ⟨w.heap.size + 1, 1, none⟩ = some (.int .i64 y1) := by simp [go_sem]
  have t2 : ((w.alloc (Obj.cells #[Value.int .i64 x0, Value.int .i64 x1, Value.int .i64 x2, Value.slice a3 n3 c3, Value.int .i64 x4, Value.int .i64 x5, Value.int .i64 x6, Value.int .i64 x7, Value.int .i64 x8, Value.slice a9 n9 c9] 40)).alloc (Obj.cells #[Value.int .i64 y0, Value.int .i64 y1, Value.int .i64 y2, Value.slice a3' n3' c3', Value.int .i64 y4, Value.int .i64 y5, Value.int .i64 y6, Value.int .i64 y7, Value.int .i64 y8, Value.slice a9' n9' c9'] 40)).cell? ⟨w.heap.size + 1, 2, none⟩ = some (.int .i64 y2) := by simp [go_sem]
  have t3 : ((w.alloc (Obj.cells #[Value.int .i64 x0, Value.int .i64 x1, Value.int .i64 x2, Value.slice a3 n3 c3, Value.int .i64 x4, Value.int .i64 x5, Value.int .i64 x6, Value.int .i64 x7, Value.int .i64 x8, Value.slice a9 n9 c9] 40)).alloc (Obj.cells #[Value.int .i64 y0, Value.int .i64 y1, Value.int .i64 y2, Value.slice a3' n3' c3', Value.int .i64 y4, Value.int .i64 y5, Value.int .i64 y6, Value.int .i64 y7, Value.int .i64 y8, Value.slice a9' n9' c9'] 40)).cell? ⟨w.heap.size + 1, 3, none⟩ = some (.slice a3' n3' c3') := by simp [go_sem]
  have t4 : ((w.alloc (Obj.cells #[Value.int .i64 x0, Value.int .i64 x1, Value.int .i64 x2, Value.slice a3 n3 c3, Value.int .i64 x4, Value.int .i64 x5, Value.int .i64 x6, Value.int .i64 x7, Value.int .i64 x8, Value.slice a9 n9 c9] 40)).alloc (Obj.cells #[Value.int .i64 y0, Value.int .i64 y1, Value.int .i64 y2, Value.slice a3' n3' c3', Value.int .i64 y4, Value.int .i64 y5, Value.int .i64 y6, Value.int .i64 y7, Value.int .i64 y8, Value.slice a9' n9' c9'] 40)).cell? ⟨w.heap.size + 1, 4, none⟩ = some (.int .i64 y4) := by simp [go_sem]
  have t5 : ((w.alloc (Obj.cells #[Value.int .i64 x0, Value.int .i64 x1, Value.int .i64 x2, Value.slice a3 n3 c3, Value.int .i64 x4, Value.int .i64 x5, Value.int .i64 x6, Value.int .i64 x7, Value.int .i64 x8, Value.slice a9 n9 c9] 40)).alloc (Obj.cells #[Value.int .i64 y0, Value.int .i64 y1, Value.int .i64 y2, Value.slice a3' n3' c3', Value.int .i64 y4, Value.int .i64 y5, Value.int .i64 y6, Value.int .i64 y7, Value.int .i64 y8, Value.slice a9' n9' c9'] 40)).cell? ⟨w.heap.size + 1, 5, none⟩ = some (.int .i64 y5) := by simp [go_sem]
  have t6 : ((w.alloc (Obj.cells #[Value.int .i64 x0, Value.int .i64 x1, Value.int .i64 x2, Value.slice a3 n3 c3, Value.int .i64 x4, Value.int .i64 x5, Value.int .i64 x6, Value.int .i64 x7, Value.int .i64 x8, Value.slice a9 n9 c9] 40)).alloc (Obj.cells #[Value.int .i64 y0, Value.int .i64 y1, Value.int .i64 y2, Value.slice a3' n3' c3', Value.int .i64 y4, Value.int .i64 y5, Value.int .i64 y6, Value.int .i64 y7, Value.int .i64 y8, Value.slice a9' n9' c9'] 40)).cell? ⟨w.heap.size + 1, 6, none⟩ = some (.int .i64 y6) := by simp [go_sem]
  have t7 : ((w.alloc (Obj.cells #[Value.int .i64 x0, Value.int .i64 x1, Value.int .i64 x2, Value.slice a3 n3 c3, Value.int .i64 x4, Value.int .i64 x5, Value.int .i64 x6, Value.int .i64 x7, Value.int .i64 x8, Value.slice a9 n9 c9] 40)).alloc (Obj.cells #[Value.int .i64 y0, Value.int .i64 y1, Value.int .i64 y2, Value.slice a3' n3' c3', Value.int .i64 y4, Value.int .i64 y5, Value.int .i64 y6, Value.int .i64 y7, Value.int .i64 y8, Value.slice a9' n9' c9'] 40)).cell? ⟨w.heap.size + 1, 7, none⟩ = some (.int .i64 y7) := by simp [go_sem]
  have t8 : ((w.alloc (Obj.cells #[Value.int .i64 x0, Value.int .i64 x1, Value.int .i64 x2, Value.slice a3 n3 c3, Value.int .i64 x4, Value.int .i64 x5, Value.int .i64 x6, Value.int .i64 x7, Value.int .i64 x8, Value.slice a9 n9 c9] 40)).alloc (Obj.cells #[Value.int .i64 y0, Value.int .i64 y1, Value.int .i64 y2, Value.slice a3' n3' c3', Value.int .i64 y4, Value.int .i64 y5, Value.int .i64 y6, Value.int .i64 y7, Value.int .i64 y8, Value.slice a9' n9' c9'] 40)).cell? ⟨w.heap.size + 1, 8, none⟩ = some (.int .i64 y8) := by simp [go_sem]
  have t9 : ((w.alloc (Obj.cells #[Value.int .i64 x0, Value.int .i64 x1, Value.int .i64 x2, Value.slice a3 n3 c3, Value.int .i64 x4, Value.int .i64 x5, Value.int .i64 x6, Value.int .i64 x7, Value.int .i64 x8, Value.slice a9 n9 c9] 40)).alloc (Obj.cells #[Value.int .i64 y0, Value.int .i64 y1, Value.int .i64 y2, Value.slice a3' n3' c3', Value.int .i64 y4, Value.int .i64 y5, Value.int .i64 y6, Value.int .i64 y7, Value.int .i64 y8, Value.slice a9' n9' c9'] 40)).cell? ⟨w.heap.size + 1, 9, none⟩ = some (.slice a9' n9' c9') := by simp [go_sem]
  cases e0 : (x0 == y0)
  · have E0 := Lib.hid e0
    go_enter Try.func26, Try.ntmps26
    go_wp2_with fail
    go_ret
    exact ⟨retB (by unfold eqPkB; rw [hl_eq]; simp [E0.out]), M0⟩
  · have E0 := Lib.hid e0
    cases e1 : (x1 == y1)
    · have E1 := Lib.hid e1
      go_enter Try.func26, Try.ntmps26
      go_wp2_with fail
      go_ret
      exact ⟨retB (by unfold eqPkB; rw [hl_eq]; simp [E1.out]), M0⟩
    · have E1 := Lib.hid e1
      cases e2 : (x2 == y2)
      · have E2 := Lib.hid e2
        go_enter Try.func26, Try.ntmps26
        go_wp2_with fail
        go_ret
        exact ⟨retB (by unfold eqPkB; rw [hl_eq]; simp [E2.out]), M0⟩
      · have E2 := Lib.hid e2
        go_enter Try.func26, Try.ntmps26
        go_wp2_with fail
        refine (specEqPaths a3 a3' n3 n3' c3 c3' B B' z3 z3' _ (h3.mk M0 hB (.inr (Nat.le_refl _))) (h3'.mk M0 hB' (.inr (Nat.le_refl _))) (Nat.le_trans hB M0.size) (Nat.le_trans hB' M0.size) hn3 hn3').mono ?_
        rintro e w1 ⟨he, m1⟩
        replace u0 := m1.cellAt u0
        replace u1 := m1.cellAt u1
        replace u2 := m1.cellAt u2
        replace u3 := m1.cellAt u3
        replace u4 := m1.cellAt u4
        replace u5 := m1.cellAt u5
        replace u6 := m1.cellAt u6
        replace u7 := m1.cellAt u7
        replace u8 := m1.cellAt u8
        replace u9 := m1.cellAt u9
        replace t0 := m1.cellAt t0
        replace t1 := m1.cellAt t1
        replace t2 := m1.cellAt t2
        replace t3 := m1.cellAt t3
        replace t4 := m1.cellAt t4
        replace t5 := m1.cellAt t5
        replace t6 := m1.cellAt t6
        replace t7 := m1.cellAt t7
        replace t8 := m1.cellAt t8
        replace t9 := m1.cellAt t9
        have M1 := M0.trans m1
        cases hv : eqListB eqPartT z3 z3' n3 n3'
        · rw [hv] at he
          subst he
          have H1 := Lib.hid hv
          clear hv
          go_wp2_with fail
          go_ret
          exact ⟨retB (by unfold eqPkB; simp [H1.out]), M1⟩
        · rw [hv] at he
          subst he
          have H1 := Lib.hid hv
          clear hv
          cases e4 : (x4 == y4)
          · have E4 := Lib.hid e4
            go_wp2_with fail
            go_ret
            exact ⟨retB (by unfold eqPkB; rw [hl_eq]; simp [E4.out]), M1⟩
          · have E4 := Lib.hid e4
            cases e5 : (x5 == y5)
            · have E5 := Lib.hid e5
              go_wp2_with fail
              go_ret
              exact ⟨retB (by unfold eqPkB; rw [hl_eq]; simp [E5.out]), M1⟩
            · have E5 := Lib.hid e5
              cases e6 : (x6 == y6)
              · have E6 := Lib.hid e6
                go_wp2_with fail
                go_ret
                exact ⟨retB (by unfold eqPkB; rw [hl_eq]; simp [E6.out]), M1⟩
              · have E6 := Lib.hid e6
                cases e7 : (x7 == y7)
                · have E7 := Lib.hid e7
                  go_wp2_with fail
                  go_ret
                  exact ⟨retB (by unfold eqPkB; rw [hl_eq]; simp [E7.out]), M1⟩
                · have E7 := Lib.hid e7
                  cases e8 : (x8 == y8)
                  · have E8 := Lib.hid e8
                    go_wp2_with fail
                    go_ret
                    exact ⟨retB (by unfold eqPkB; rw [hl_eq]; simp [E8.out]), M1⟩
                  · have E8 := Lib.hid e8
                    go_wp2_with fail
                    refine (specEqualBytes a9 a9' n9 n9' c9 c9' B B' z9 z9' _ (hasR_int.1 (h9.mk M1 hB (.inr (Nat.le_refl _)))) (hasR_int.1 (h9'.mk M1 hB' (.inr (Nat.le_refl _)))) hx9 hy9 (by omega) (by omega)).mono ?_
                    rintro e w' ⟨rfl, rfl⟩
                    go_wp2_with fail
                    go_ret
                    exact ⟨retB (by unfold eqPkB; rw [hl_eq]; simp [E0.out, E1.out, E2.out, E4.out, E5.out, E6.out, E7.out, E8.out, H1.out]), M1⟩

def eqVdB (v0 v0_ v1 v1_ : Int) (b : Bool) : Bool := (v0 == v0_) && ((v1 == v1_) && b)
set_option maxRecDepth 100000 in
set_option maxHeartbeats 4000000 in
theorem specEqVd (v0 v1 v0_ v1_ : Int) (x0 x1 x2 x4 x5 x6 x7 x8 y0 y1 y2 y4 y5 y6 y7 y8 : Int) (a3 a3' : Option Addr) (n3 n3' c3 c3' : Nat) (z3 z3' : List TPathPart) (a9 a9' : Option Addr) (n9 n9' c9 c9' : Nat) (z9 z9' : List Int) (B B' : Nat) (w : World) (h3 : HasPathPart w B a3 n3 z3) (h9 : HasByte w B a9 n9 z9) (h3' : HasPathPart w B' a3' n3' z3') (h9' : HasByte w B' a9' n9' z9') (hB : B ≤ w.heap.size) (hB' : B' ≤ w.heap.size) (hn3 : szPathPart z3 n3 ≤ 1048576) (hn9 : n9 ≤ 1048576) (hn3' : szPathPart z3' n3' ≤ 1048576) (hn9' : n9' ≤ 1048576) (hx9 : ∀ z ∈ z9, (Lit.int .u8 z).wf = true) (hy9 : ∀ z ∈ z9', (Lit.int .u8 z).wf = true) :
    Calls Try.prog 33 #[.agg #[.int .i64 v0, .int .i64 v1, .int .i64 x0, .int .i64 x1, .int .i64 x2, .slice a3 n3 c3, .int .i64 x4, .int .i64 x5, .int .i64 x6, .int .i64 x7, .int .i64 x8, .slice a9 n9 c9], .agg #[.int .i64 v0_, .int .i64 v1_, .int .i64 y0, .int .i64 y1, .int .i64 y2, .slice a3' n3' c3', .int .i64 y4, .int .i64 y5, .int .i64 y6, .int .i64 y7, .int .i64 y8, .slice a9' n9' c9']] w fun e w' => e = .returned (.bool (eqVdB v0 v0_ v1 v1_ (eqPkB x0 x1 x2 x4 x5 x6 x7 x8 y0 y1 y2 y4 y5 y6 y7 y8 n3 n3' z3 z3' z9 z9'))) ∧ Mk0 w w' := by
  have M0 := (Mk.alloc w (Obj.cells #[Value.int .i64 v0, Value.int .i64 v1, Value.int .i64 x0, Value.int .i64 x1, Value.int .i64 x2, Value.slice a3 n3 c3, Value.int .i64 x4, Value.int .i64 x5, Value.int .i64 x6, Value.int .i64 x7, Value.int .i64 x8, Value.slice a9 n9 c9] 53)).new (Obj.cells #[Value.int .i64 v0_, Value.int .i64 v1_, Value.int .i64 y0, Value.int .i64 y1, Value.int .i64 y2, Value.slice a3' n3' c3', Value.int .i64 y4, Value.int .i64 y5, Value.int .i64 y6, Value.int .i64 y7, Value.int .i64 y8, Value.slice a9' n9' c9'] 53)
  have u0 : ((w.alloc (Obj.cells #[Value.int .i64 v0, Value.int .i64 v1, Value.int .i64 x0, Value.int .i64 x1, Value.int .i64 x2, Value.slice a3 n3 c3, Value.int .i64 x4, Value.int .i64 x5, Value.int .i64 x6, Value.int .i64 x7, Value.int .i64 x8, Value.slice a9 n9 c9] 53)).alloc (Obj.cells #[Value.int .i64 v0_, Value.int .i64 v1_, Value.int .i64 y0, Value.int .i64 y1, Value.int .i64 y2, Value.slice a3' n3' c3', Value.int .i64 y4, Value.int .i64 y5, Value.int .i64 y6, Value.int .i64 y7, Value.int .i64 y8, Value.slice a9' n9' c9'] 53)).cell? ⟨w.heap.size, 0, none⟩ = some (.int .i64 v0) := by simp [go_sem]
  have u1 : ((w.alloc (Obj.cells #[Value.int .i64 v0, Value.int .i64 v1, Value.int .i64 x0, Value.int .i64 x1, Value.int .i64 x2, Value.slice a3 n3 c3, Value.int .i64 x4, Value.int .i64 x5, Value.int .i64 x6, Value.int .i64 x7, Value.int .i64 x8, Value.slice a9 n9 c9] 53)).alloc (Obj.cells #[Value.int .i64 v0_, Value.int .i64 v1_, Value.int .i64 y0, Value.int .i64 y1, Value.int .i64 y2, Value.slice a3' n3' c3', Value.int .i64 y4, Value.int .i64 y5, Value.int .i64 y6, Value.int .i64 y7, Value.int .i64 y8, Value.slice a9' n9' c9'] 53)).cell? ⟨w.heap.size, 1, none⟩ = some (.int .i64 v1) := by simp [go_sem]
  have u2 : ((w.alloc (Obj.cells #[Value.int .i64 v0, Value.int .i64 v1, Value.int .i64 x0, Value.int .i64 x1, Value.int .i64 x2, Value.slice a3 n3 c3, Value.int .i64 x4, Value.int .i64 x5, Value.int .i64 x6, Value.int .i64 x7, Value.int .i64 x8, Value.slice a9 n9 c9] 53)).alloc (Obj.cells #[Value.int .i64 v0_, Value.int .i64 v1_, Value.int .i64 y0, Value.int .i64 y1, Value.int .i64 y2, Value.slice a3' n3' c3', Value.int .i64 y4, Value.int .i64 y5, Value.int .i64 y6, Value.int .i64 y7, Value.int .i64 y8, Value.slice a9' n9' c9'] 53)).cell? ⟨w.heap.size, 2, none⟩ = some (.int .i64 x0) := by simp [go_sem]
  have u3 : ((w.alloc (Obj.cells #[Value.int .i64 v0, Value.int .i64 v1, Value.int .i64 x0, Value.int .i64 x1, Value.int .i64 x2, Value.slice a3 n3 c3, Value.int .i64 x4, Value.int .i64 x5, Value.int .i64 x6, Value.int .i64 x7, Value.int .i64 x8, Value.slice a9 n9 c9] 53)).alloc (Obj.cells #[Value.int .i64 v0_, Value.int .i64 v1_, Value.int .i64 y0, Value.int .i64 y1, Value.int .i64 y2, Value.slice a3' n3' c3', Value.int .i64 y4, Value.int .i64 y5, Value.int .i64 y6, Value.int .i64 y7, Value.int .i64 y8, Value.slice a9' n9' c9'] 53)).cell? ⟨w.heap.size, 3, none⟩ = some (.int .i64 x1) := by simp [go_sem]
  have u4 : ((w.alloc (Obj.cells #[Value.int .i64 v0, Value.int .i64 v1, Value.int .i64 x0, Value.int .i64 x1, Value.int .i64 x2, Value.slice a3 n3 c3, Value.int .i64 x4, Value.int .i64 x5, Value.int .i64 x6, Value.int .i64 x7, Value.int .i64 x8, Value.slice a9 n9 c9] 53)).alloc (Obj.cells #[Value.int .i64 v0_, Value.int .i64 v1_, Value.int .i64 y0, Value.int .i64 y1, Value.int .i64 y2, Value.slice a3' n3' c3', Value.int .i64 y4, Value.int .i64 y5, Value.int .i64 y6, Value.int .i64 y7, Value.int .i64 y8, Value.slice a9' n9' c9'] 53)).cell? ⟨w.heap.size, 4, none⟩ = some (.int .i64 x2) := by simp [go_sem]
  have u5 : ((w.alloc (Obj.cells #[Value.int .i64 v0, Value.int .i64 v1, Value.int .i64 x0, Value.int .i64 x1, Value.int .i64 x2, Value.slice a3 n3 c3, Value.int .i64 x4, Value.int .i64 x5, Value.int .i64 x6, Value.int .i64 x7, Value.int .i64 x8, Value.slice a9 n9 c9] 53)).alloc (Obj.cells #[Value.int .i64 v0_, Value.int .i64 v1_, Value.int .i64 y0, Value.int .i64 y1, Value.int .i64 y2, Value.slice a3' n3' c3', Value.int .i64 y4, Value.int .i64 y5, Value.int .i64 y6, Value.int .i64 y7, Value.int .i64 y8, Value.slice a9' n9' c9'] 53)).cell? ⟨w.heap.size, 5, none⟩ = some (.slice a3 n3 c3) := by simp [go_sem]
  have u6 : ((w.alloc (Obj.cells #[Value.int .i64 v0, Value.int .i64 v1, Value.int .i64 x0, Value.int .i64 x1, Value.int .i64 x2, Value.slice a3 n3 c3, Value.int .i64 x4, Value.int .i64 x5, Value.int .i64 x6, Value.int .i64 x7, Value.int .i64 x8, Value.slice a9 n9 c9] 53)).alloc (Obj.cells #[Value.int .i64 v0_, Value.int .i64 v1_, Value.int .i64 y0, Value.int .i64 y1, Value.int .i64 y2, Value.slice a3' n3' c3', Value.int .i64 y4, Value.int .i64 y5, Value.int .i64 y6, Value.int .i64 y7, Value.int .i64 y8, Value.slice a9' n9' c9'] 53)).cell? ⟨w.heap.size, 6, none⟩ = some (.int .i64 x4) := by simp [go_sem]
  have u7 : ((w.alloc (Obj.cells #[Value.int .i64 v0, Value.int .i64 v1, Value.int .i64 x0, Value.int .i64 x1, Value.int .i64 x2, Value.slice a3 n3 c3, Value.int .i64 x4, Value.int .i64 x5, Value.int .i64 x6, Value.int .i64 x7, Value.int .i64 x8, Value.slice a9 n9 c9] 53)).alloc (Obj.cells #[Value.int .i64 v0_, Value.int .i64 v1_, Value.int .i64 y0, Value.int .i64 y1, Value.int .i64 y2, Value.slice a3' n3' c3', Value.int .i64 y4, Value.int .i64 y5, Value.int .i64 y6, Value.int .i64 y7, Value.int .i64 y8, Value.slice a9' n9' c9'] 53)).cell? ⟨w.heap.size, 7, none⟩ = some (.int .i64 x5) := by simp [go_sem]
  have u8 : ((w.alloc (Obj.cells #[Value.int .i64 v0, Value.int .i64 v1, Value.int .i64 x0, Value.int .i64 x1, Value.int .i64 x2, Value.slice a3 n3 c3, Value.int .i64 x4, Value.int .i64 x5, Value.int .i64 x6, Value.int .i64 x7, Value.int .i64 x8, Value.slice a9 n9 c9] 53)).alloc (Obj.cells #[Value.int .i64 v0_, Value.int .i64 v1_, Value.int .i64 y0, Value.int .i64 y1, Value.int .i64 y2, Value.slice a3' n3' c3', Value.int .i64 y4, Value.int .i64 y5, Value.int .i64 y6, Value.int .i64 y7, Value.int .i64 y8, Value.slice a9' n9' c9'] 53)).cell? ⟨w.heap.size, 8, none⟩ = some (.int .i64 x6) := by simp [go_sem]
  have u9 : ((w.alloc (Obj.cells #[Value.int .i64 v0, Value.int .i64 v1, Value.int .i64 x0, Value.int .i64 x1, Value.int .i64 x2, Value.slice a3 n3 c3, Value.int .i64 x4, Value.int .i64 x5, Value.int .i64 x6, Value.int .i64 x7, Value.int .i64 x8, Value.slice a9 n9 c9] 53)).alloc (Obj.cells #[Value.int .i64 v0_, Value.int .i64 v1_, Value.int .i64 y0, Value.int .i64 y1, Value.int .i64 y2, Value.slice a3' n3' c3', Value.int .i64 y4, Value.int .i64 y5, Value.int .i64 y6, Value.int .i64 y7, Value.int .i64 y8, Value.slice a9' n9' c9'] 53)).cell? ⟨w.heap.size, 9, none⟩ = some (.int .i64 x7) := by simp [go_sem]
  have u10 : ((w.alloc (Obj.cells #[Value.int .i64 v0, Value.int .i64 v1, Value.int .i64 x0, Value.int .i64 x1, Value.int .i64 x2, Value.slice a3 n3 c3, Value.int .i64 x4, Value.int .i64 x5, Value.int .i64 x6, Value.int .i64 x7, Value.int .i64 x8, Value.slice a9 n9 c9] 53)).alloc (Obj.cells #[Value.int .i64 v0_, Value.int .i64 v1_, Value.int .i64 y0, Value.int .i64 y1, Value.int .i64 y2, Value.slice a3' n3' c3', Value.int .i64 y4, Value.int .i64 y5, Value.int .i64 y6, Value.int .i64 y7, Value.int .i64 y8, Value.slice a9' n9' c9'] 53)).cell? ⟨w.heap.size, 10, none⟩ = some (.int .i64 x8) := by simp [go_sem]
  have u11 : ((w.alloc (Obj.cells #[Value.int .i64 v0, Value.int .i64 v1, Value.int .i64 x0, Value.int .i64 x1, Value.int .i64 x2, Value.slice a3 n3 c3, Value.int .i64 x4, Value.int .i64 x5, Value.int .i64 x6, Value.int .i64 x7, Value.int .i64 x8, Value.slice a9 n9 c9] 53)).alloc (Obj.cells #[Value.int .i64 v0_, Value.int .i64 v1_, Value.int .i64 y0, Value.int .i64 y1, Value.int .i64 y2, Value.slice a3' n3' c3', Value.int .i64 y4, Value.int .i64 y5, Value.int .i64 y6, Value.int .i64 y7, Value.int .i64 y8, Value.slice a9' n9' c9'] 53)).cell? ⟨w.heap.size, 11, none⟩ = some (.slice a9 n9 c9) := by simp [go_sem]
  have t0 : ((w.alloc (Obj.cells #[Value.int .i64 v0, Value.int .i64 v1, Value.int .i64 x0, Value.int .i64 x1, Value.int .i64 x2, Value.slice a3 n3 c3, Value.int .i64 x4, Value.int .i64 x5, Value.int .i64 x6, Value.int .i64 x7, Value.int .i64 x8, Value.slice a9 n9 c9] 53)).alloc (Obj.cells #[Value.int .i64 v0_, Value.int .i64 v1_, Value.int .i64 y0, Value.int .i64 y1, Value.int .i64 y2, Value.slice a3' n3' c3', Value.int .i64 y4, Value.int .i64 y5, Value.int .i64 y6, Value.int .i64 y7, Value.int .i64 y8, Value.slice a9' n9' c9'] 53)).cell? ⟨w.heap.size + 1, 0, none⟩ = some (.int .i64 v0_) := by simp [go_sem]
  have t1 : ((w.alloc (Obj.cells #[Value.int .i64 v0, Value.int .i64 v1, Value.int .i64 x0, Value.int .i64 x1, Value.int .i64 x2, Value.slice a3 n3 c3, Value.int .i64 x4, Value.int .i64 x5, Value.int .i64 x6, Value.int .i64 x7, Value.int .i64 x8, Value.slice a9 n9 c9] 53)).alloc (Obj.cells #[Value.int .i64 v0_, Value.int .i64 v1_, Value.int .i64 y0, Value.int .i64 y1, Value.int .i64 y2, Value.slice a3' n3' c3', Value.int .i64 y4, Value.int .i64 y5, Value.int .i64 y6, Value.int .i64 y7, Value.int .i64 y8, Value.slice a9' n9' c9'] 53)).cell? ⟨w.heap.size + 1, 1, none⟩ = some (.int .i64 v1_) := by simp [go_sem]
  have t2 : ((w.alloc (Obj.cells #[Value.int .i64 v0, Value.int .i64 v1, Value.int .i64 x0, Value.int .i64 x1, Value.int .i64 x2, Value.slice a3 n3 c3, Value.int .i64 x4, Value.int .i64 x5, Value.int .i64 x6, Value.int .i64 x7, Value.int .i64 x8, Value.slice a9 n9 c9] 53)).alloc (Obj.cells #[Value.int .i64 v0_, Value.int .i64 v1_, Value.int .i64 y0, Value.int .i64 y1, Value.int .i64 y2, Value.slice a3' n3' c3', Value.int .i64 y4, Value.int .i64 y5, Value.int .i64 y6, Value.int .i64 y7, Value.int .i64 y8, Value.slice a9' n9' c9'] 53)).cell? ⟨w.heap.size + 1, 2, none⟩ = some (.int .i64 y0) := by simp [go_sem]
  have t3 : ((w.alloc (Obj.cells #[Value.int .i64 v0, Value.int .i64 v1, Value.int .i64 x0, Value.int .i64 x1, Value.int .i64 x2, Value.slice a3 n3 c3, Value.int .i64 x4, Value.int .i64 x5, Value.int .i64 x6, Value.int .i64 x7, Value.int .i64 x8, Value.slice a9 n9 c9] 53)).alloc (Obj.cells #[Value.int .i64 v0_, Value.int .i64 v1_, Value.int .i64 y0, Value.int .i64 y1, Value.int .i64 y2, Value.slice a3' n3' c3', Value.int .i64 y4, Value.int .i64 y5, Value.int .i64 y6, Value.int .i64 y7, Value.int .i64 y8, Value.slice a9' n9' c9'] 53)).cell? ⟨w.heap.size + 1, 3, none⟩ = some (.int .i64 y1) := by simp [go_sem]
  have t4 : ((w.alloc (Obj.cells #[Value.int .i64 v0, Value.int .i64 v1, Value.int .i64 x0, Value.int .i64 x1, Value.int .i64 x2, Value.slice a3 n3 c3, Value.int .i64 x4, Value.int .i64 x5, Value.int .i64 x6, Value.int .i64 x7, Value.int .i64 x8, Value.slice a9 n9 c9] 53)).alloc (Obj.cells #[Value.int .i64 v0_, Value.int .i64 v1_, Value.int .i64 y0, Value.int .i64 y1, Value.int .i64 y2, Value.slice a3' n3' c3', Value.int .i64 y4, Value.int .i64 y5, Value.int .i64 y6, Value.int .i64 y7, Value.int .i64 y8, Value.slice a9' n9' c9'] 53)).cell? ⟨w.heap.size + 1, 4, none⟩ = some (.int .i64 y2) := by simp [go_sem]
  have t5 : ((w.alloc (Obj.cells #[Value.int .i64 v0, Value.int .i64 v1, Value.int .i64 x0, Value.int .i64 x1, Value.int .i64 x2, Value.slice a3 n3 c3, Value.int .i64 x4, Value.int .i64 x5, Value.int .i64 x6, Value.int .i64 x7, Value.int .i64 x8, Value.slice a9 n9 c9] 53)).alloc (Obj.cells #[Value.int .i64 v0_, Value.int .i64 v1_, Value.int .i64 y0, Value.int .i64 y1, Value.int .i64 y2, Value.slice a3' n3' c3', Value.int .i64 y4, Value.int .i64 y5, Value.int .i64 y6, Value.int .i64 y7, Value.int .i64 y8, Value.slice a9' n9' c9'] 53)).cell? ⟨w.heap.size + 1, 5, none⟩ = some (.slice a3' n3' c3') := by simp [go_sem]
  have t6 : ((w.alloc (Obj.cells #[Value.int .i64 v0, Value.int .i64 v1, Value.int .i64 x0, Value.int .i64 x1, Value.int .i64 x2, Value.slice a3 n3 c3, Value.int .i64 x4, Value.int .i64 x5, Value.int .i64 x6, Value.int .i64 x7, Value.int .i64 x8, Value.slice a9 n9 c9] 53)).alloc (Obj.cells #[Value.int .i64 v0_, Value.int .i64 v1_, Value.int .i64 y0, Value.int .i64 y1, Value.int .i64 y2, Value.slice a3' n3' c3', Value.int .i64 y4, Value.int .i64 y5, Value.int .i64 y6, Value.int .i64 y7, Value.int .i64 y8, Value.slice a9' n9' c9'] 53)).cell? ⟨w.heap.size + 1, 6, none⟩ = some (.int .i64 y4) := by simp [go_sem]
  have t7 : ((w.alloc (Obj.cells #[Value.int .i64 v0, Value.int .i64 v1, Value.int .i64 x0, Value.int .i64 x1, Value.int .i64 x2, Value.slice a3 n3 c3, Value.int .i64 x4, Value.int .i64 x5, Value.int .i64 x6, Value.int .i64 x7, Value.int .i64 x8, Value.slice a9 n9 c9] 53)).alloc (Obj.cells #[Value.int .i64 v0_, Value.int .i64 v1_, Value.int .i64 y0, Value.int .i64 y1, Value.int .i64 y2, Value.slice a3' n3' c3', Value.int .i64 y4, Value.int .i64 y5, Value.int .i64 y6, Value.int .i64 y7, Value.int .i64 y8, Value.slice a9' n9' c9'] 53)).cell? ⟨w.heap.size + 1, 7, none⟩ = some (.int .i64 y5) := by simp [go_sem]
  have t8 : ((w.alloc (Obj.cells #[Value.int .i64 v0, Value.int .i64 v1, Value.int .i64 x0, Value.int .i64 x1, Value.int .i64 x2, Value.slice a3 n3 c3, Value.int .i64 x4, Value.int .i64 x5, Value.int .i64 x6, Value.int .i64 x7, Value.int .i64 x8, Value.slice a9 n9 c9] 53)).alloc (Obj.cells #[Value.int .i64 v0_, Value.int .i64 v1_, Value.int .i64 y0, Value.int .i64 y1, Value.int .i64 y2, Value.slice a3' n3' c3', Value.int .i64 y4, Value.int .i64 y5, Value.int .i64 y6, Value.int .i64 y7, Value.int .i64 y8, Value.slice a9' n9' c9'] 53)).cell? ⟨w.heap.size + 1, 8, none⟩ = some (.int .i64 y6) := by simp [go_sem]
  have t9 : ((w.alloc (Obj.cells #[Value.int .i64 v0, Value.int .i64 v1, Value.int .i64 x0, Value.int .i64 x1, Value.int .i64 x2, Value.slice a3 n3 c3, Value.int .i64 x4, Value.int .i64 x5, Value.int .i64 x6, Value.int .i64 x7, Value.int .i64 x8, Value.slice a9 n9 c9] 53)).alloc (Obj.cells #[Value.int .i64 v0_, Value.int .i64 v1_, Value.int .i64 y0, Value.int .i64 y1, Value.int .i64 y2, Value.slice a3' n3' c3', Value.int .i64 y4, Value.int .i64 y5, Value.int .i64 y6, Value.int .i64 y7, Value.int .i64 y8, Value.slice a9' n9' c9'] 53)).cell? ⟨w.heap.size + 1, 9, none⟩ = some (.int .i64 y7) := by simp [go_sem]
  have t10 : ((w.alloc (Obj.cells #[Value.int .i64 v0, Value.int .i64 v1, Value.int .i64 x0, Value.int .i64 x1, Value.int .i64 x2, Value.slice a3 n3 c3, Value.int .i64 x4, Value.int .i64 x5, Value.int .i64 x6, Value.int .i64 x7, Value.int .i64 x8, Value.slice a9 n9 c9] 53)).alloc (Obj.cells #[Value.int .i64 v0_, Value.int .i64 v1_, Value.int .i64 y0, Value.int .i64 y1, Value.int .i64 y2, Value.slice a3' n3' c3', Value.int .i64 y4, Value.int .i64 y5, Value.int .i64 y6, Value.int .i64 y7, Value.int .i64 y8, Value.slice a9' n9' c9'] 53)).cell? ⟨w.heap.size + 1, 10, none⟩ = some (.int .i64 y8) := by simp [go_sem]
  have t11 : ((w.alloc (Obj.cells #[Value.int .i64 v0, Value.int .i64 v1, Value.int .i64 x0, Value.int .i64 x1, Value.int .i64 x2, Value.slice a3 n3 c3, Value.int .i64 x4, Value.int .i64 x5, Value.int .i64 x6, Value.int .i64 x7, Value.int .i64 x8, Value.slice a9 n9 c9] 53)).alloc (Obj.cells #[Value.int .i64 v0_, Value.int .i64 v1_, Value.int .i64 y0, Value.int .i64 y1, Value.int .i64 y2, Value.slice a3' n3' c3', Value.int .i64 y4, Value.int .i64 y5, Value.int .i64 y6, Value.int .i64 y7, Value.int .i64 y8, Value.slice a9' n9' c9'] 53)).cell? ⟨w.heap.size + 1, 11, none⟩ = some (.slice a9' n9' c9') := by simp [go_sem]
  cases e0 : (v0 == v0_)
  · have E0 := Lib.hid e0
    go_enter Try.func33, Try.ntmps33
    go_wp2_with fail
    go_ret
    exact ⟨retB (by unfold eqVdB; simp [E0.out]), M0⟩
  · have E0 := Lib.hid e0
    cases e1 : (v1 == v1_)
    · have E1 := Lib.hid e1
      go_enter Try.func33, Try.ntmps33
      go_wp2_with fail
      go_ret
      exact ⟨retB (by unfold eqVdB; simp [E1.out]), M0⟩
    · have E1 := Lib.hid e1
      go_enter Try.func33, Try.ntmps33
      go_wp2_with fail
      refine (specEqPk x0 x1 x2 x4 x5 x6 x7 x8 y0 y1 y2 y4 y5 y6 y7 y8 a3 a3' n3 n3' c3 c3' z3 z3' a9 a9' n9 n9' c9 c9' z9 z9' B B' _ (h3.mk M0 hB (.inr (Nat.le_refl _))) (h9.mk M0 hB (.inr (Nat.le_refl _))) (h3'.mk M0 hB' (.inr (Nat.le_refl _))) (h9'.mk M0 hB' (.inr (Nat.le_refl _))) (Nat.le_trans hB M0.size) (Nat.le_trans hB' M0.size) hn3 hn9 hn3' hn9' hx9 hy9).mono ?_
      rintro e w1 ⟨rfl, m1⟩
      go_wp2_with fail
      go_ret
      exact ⟨retB (by unfold eqVdB; rw [E0.out, E1.out]; rfl), M0.trans m1⟩

set_option maxRecDepth 100000 in
set_option maxHeartbeats 4000000 in
theorem implEqVd (v0 v1 v0_ v1_ : Int) (x0 x1 x2 x4 x5 x6 x7 x8 y0 y1 y2 y4 y5 y6 y7 y8 : Int) (a3 a3' : Option Addr) (n3 n3' c3 c3' : Nat) (z3 z3' : List TPathPart) (a9 a9' : Option Addr) (n9 n9' c9 c9' : Nat) (z9 z9' : List Int) (B B' : Nat) (w : World) (h3 : HasPathPart w B a3 n3 z3) (h9 : HasByte w B a9 n9 z9) (h3' : HasPathPart w B' a3' n3' z3') (h9' : HasByte w B' a9' n9' z9') (hB : B ≤ w.heap.size) (hB' : B' ≤ w.heap.size) (hn3 : szPathPart z3 n3 ≤ 1048576) (hn9 : n9 ≤ 1048576) (hn3' : szPathPart z3' n3' ≤ 1048576) (hn9' : n9' ≤ 1048576) :
    Calls Try.prog 35 #[.agg #[.int .i64 v0, .int .i64 v1, .int .i64 x0, .int .i64 x1, .int .i64 x2, .slice a3 n3 c3, .int .i64 x4, .int .i64 x5, .int .i64 x6, .int .i64 x7, .int .i64 x8, .slice a9 n9 c9], .agg #[.int .i64 v0_, .int .i64 v1_, .int .i64 y0, .int .i64 y1, .int .i64 y2, .slice a3' n3' c3', .int .i64 y4, .int .i64 y5, .int .i64 y6, .int .i64 y7, .int .i64 y8, .slice a9' n9' c9']] w fun e w' => e = .returned (.bool (eqVdB v0 v0_ v1 v1_ (eqPkB x0 x1 x2 x4 x5 x6 x7 x8 y0 y1 y2 y4 y5 y6 y7 y8 n3 n3' z3 z3' z9 z9'))) ∧ Mk0 w w' := by
  have M0 := (Mk.alloc w (Obj.cells #[Value.int .i64 v0, Value.int .i64 v1, Value.int .i64 x0, Value.int .i64 x1, Value.int .i64 x2, Value.slice a3 n3 c3, Value.int .i64 x4, Value.int .i64 x5, Value.int .i64 x6, Value.int .i64 x7, Value.int .i64 x8, Value.slice a9 n9 c9] 53)).new (Obj.cells #[Value.int .i64 v0_, Value.int .i64 v1_, Value.int .i64 y0, Value.int .i64 y1, Value.int .i64 y2, Value.slice a3' n3' c3', Value.int .i64 y4, Value.int .i64 y5, Value.int .i64 y6, Value.int .i64 y7, Value.int .i64 y8, Value.slice a9' n9' c9'] 53)
  have u0 : ((w.alloc (Obj.cells #[Value.int .i64 v0, Value.int .i64 v1, Value.int .i64 x0, Value.int .i64 x1, Value.int .i64 x2, Value.slice a3 n3 c3, Value.int .i64 x4, Value.int .i64 x5, Value.int .i64 x6, Value.int .i64 x7, Value.int .i64 x8, Value.slice a9 n9 c9] 53)).alloc (Obj.cells #[Value.int .i64 v0_, Value.int .i64 v1_, Value.int .i64 y0, Value.int .i64 y1, Value.int .i64 y2, Value.slice a3' n3' c3', Value.int .i64 y4, Value.int .i64 y5, Value.int .i64 y6, Value.int .i64 y7, Value.int .i64 y8, Value.slice a9' n9' c9'] 53)).cell? ⟨w.heap.size, 0, none⟩ = some (.int .i64 v0) := by simp [go_sem]
  have u1 : ((w.alloc (Obj.cells #[Value.int .i64 v0, Value.int .i64 v1, Value.int .i64 x0, Value.int .i64 x1, Value.int .i64 x2, Value.slice a3 n3 c3, Value.int .i64 x4, Value.int .i64 x5, Value.int .i64 x6, Value.int .i64 x7, Value.int .i64 x8, Value.slice a9 n9 c9] 53)).alloc (Obj.cells #[Value.int .i64 v0_, Value.int .i64 v1_, Value.int .i64 y0, Value.int .i64 y1, Value.int .i64 y2, Value.slice a3' n3' c3', Value.int .i64 y4, Value.int .i64 y5, Value.int .i64 y6, Value.int .i64 y7, Value.int .i64 y8, Value.slice a9' n9' c9'] 53)).cell? ⟨w.heap.size, 1, none⟩ = some (.int .i64 v1) := by simp [go_sem]
  have u2 : ((w.alloc (Obj.cells #[Value.int .i64 v0, Value.int .i64 v1, Value.int .i64 x0, Value.int .i64 x1, Value.int .i64 x2, Value.slice a3 n3 c3, Value.int .i64 x4, Value.int .i64 x5, Value.int .i64 x6, Value.int .i64 x7, Value.int .i64 x8, Value.slice a9 n9 c9] 53)).alloc (Obj.cells #[Value.int .i64 v0_, Value.int .i64 v1_, Value.int .i64 y0, Value.int .i64 y1, Value.int .i64 y2, Value.slice a3' n3' c3', Value.int .i64 y4, Value.int .i64 y5, Value.int .i64 y6, Value.int .i64 y7, Value.int .i64 y8, Value.slice a9' n9' c9'] 53)).cell? ⟨w.heap.size, 2, none⟩ = some (.int .i64 x0) := by simp [go_sem]
  have u3 : ((w.alloc (Obj.cells #[Value.int .i64 v0, Value.int .i64 v1, Value.int .i64 x0, Value.int .i64 x1, Value.int .i64 x2, Value.slice a3 n3 c3, Value.int .i64 x4, Value.int .i64 x5, Value.int .i64 x6, Value.int .i64 x7, Value.int .i64 x8, Value.slice a9 n9 c9] 53)).alloc (Obj.cells #[Value.int .i64 v0_, Value.int .i64 v1_, Value.int .i64 y0, Value.int .i64 y1, Value.int .i64 y2, Value.slice a3' n3' c3', Value.int .i64 y4, Value.int .i64 y5, Value.int .i64 y6, Value.int .i64 y7, Value.int .i64 y8, Value.slice a9' n9' c9'] 53)).cell? ⟨w.heap.size, 3, none⟩ = some (.int .i64 x1) := by simp [go_sem]
  have u4 : ((w.alloc (Obj.cells #[Value.int .i64 v0, Value.int .i64 v1, Value.int .i64 x0, Value.int .i64 x1, Value.int .i64 x2, Value.slice a3 n3 c3, Value.int .i64 x4, Value.int .i64 x5, Value.int .i64 x6, Value.int .i64 x7, Value.int .i64 x8, Value.slice a9 n9 c9] 53)).alloc (Obj.cells #[Value.int .i64 v0_, Value.int .i64 v1_, Value.int .i64 y0, Value.int .i64 y1, Value.int .i64 y2, Value.slice a3' n3' c3', Value.int .i64 y4, Value.int .i64 y5, Value.int .i64 y6, Value.int .i64 y7, Value.int .i64 y8, Value.slice a9' n9' c9'] 53)).cell? ⟨w.heap.size, 4, none⟩ = some (.int .i64 x2) := by simp [go_sem]
  have u5 : ((w.alloc (Obj.cells #[Value.int .i64 v0, Value.int .i64 v1, Value.int .i64 x0, Value.int .i64 x1, Value.int .i64 x2, Value.slice a3 n3 c3, Value.int .i64 x4, Value.int .i64 x5, Value.int .i64 x6, Value.int .i64 x7, Value.int .i64 x8, Value.slice a9 n9 c9] 53)).alloc (Obj.cells #[Value.int .i64 v0_, Value.int .i64 v1_, Value.int .i64 y0, Value.int .i64 y1, Value.int .i64 y2, Value.slice a3' n3' c3', Value.int .i64 y4, Value.int .i64 y5, Value.int .i64 y6, Value.int .i64 y7, Value.int .i64 y8, Value.slice a9' n9' c9'] 53)).cell? ⟨w.heap.size, 5, none⟩ = some (.slice a3 n3 c3) := by simp [go_sem]
  have u6 : ((w.alloc (Obj.cells #[Value.int .i64 v0, Value.int .i64 v1, Value.int .i64 x0, Value.int .i64 x1, Value.int .i64 x2, Value.slice a3 n3 c3, Value.int .i64 x4, Value.int .i64 x5, Value.int .i64 x6, Value.int .i64 x7, Value.int .i64 x8, Value.slice a9 n9 c9] 53)).alloc (Obj.cells #[Value.int .i64 v0_, Value.int .i64 v1_, Value.int .i64 y0, Value.int .i64 y1, Value.int .i64 y2, Value.slice a3' n3' c3', Value.int .i64 y4, Value.int .i64 y5, Value.int .i64 y6, Value.int .i64 y7, Value.int .i64 y8, Value.slice a9' n9' c9'] 53)).cell? ⟨w.heap.size, 6, none⟩ = some (.int .i64 x4) := by simp [go_sem]
  have u7 : ((w.alloc (Obj.cells #[Value.int .i64 v0, Value.int .i64 v1, Value.int .i64 x0, Value.int .i64 x1, Value.int .i64 x2, Value.slice a3 n3 c3, Value.int .i64 x4, Value.int .i64 x5, Value.int .i64 x6, Value.int .i64 x7, Value.int .i64 x8, Value.slice a9 n9 c9] 53)).alloc (Obj.cells #[Value.int .i64 v0_, Value.int .i64 v1_, Value.int .i64 y0, Value.int .i64 y1, Value.int .i64 y2, Value.slice a3' n3' c3', Value.int .i64 y4, Value.int .i64 y5, Value.int .i64 y6, Value.int .i64 y7, Value.int .i64 y8, Value.slice a9' n9' c9'] 53)).cell? ⟨w.heap.size, 7, none⟩ = some (.int .i64 x5) := by simp [go_sem]
  have u8 : ((w.alloc (Obj.cells #[Value.int .i64 v0, Value.int .i64 v1, Value.int .i64 x0, Value.int .i64 x1, Value.int .i64 x2, Value.slice a3 n3 c3, Value.int .i64 x4, Value.int .i64 x5, Value.int .i64 x6, Value.int .i64 x7, Value.int .i64 x8, Value.slice a9 n9 c9] 53)).alloc (Obj.cells #[Value.int .i64 v0_, Value.int .i64 v1_, Value.int .i64 y0, Value.int .i64 y1, Value.int .i64 y2, Value.slice a3' n3' c3', Value.int .i64 y4, Value.int .i64 y5, Value.int .i64 y6, Value.int .i64 y7, Value.int .i64 y8, Value.slice a9' n9' c9'] 53)).cell? ⟨w.heap.size, 8, none⟩ = some (.int .i64 x6) := by simp [go_sem]
  have u9 : ((w.alloc (Obj.cells #[Value.int .i64 v0, Value.int .i64 v1, Value.int .i64 x0, Value.int .i64 x1, Value.int .i64 x2, Value.slice a3 n3 c3, Value.int .i64 x4, Value.int .i64 x5, Value.int .i64 x6, Value.int .i64 x7, Value.int .i64 x8, Value.slice a9 n9 c9] 53)).alloc (Obj.cells #[Value.int .i64 v0_, Value.int .i64 v1_, Value.int .i64 y0, Value.int .i64 y1, Value.int .i64 y2, Value.slice a3' n3' c3', Value.int .i64 y4, Value.int .i64 y5, Value.int .i64 y6, Value.int .i64 y7, Value.int .i64 y8, Value.slice a9' n9' c9'] 53)).cell? ⟨w.heap.size, 9, none⟩ = some (.int .i64 x7) := by simp [go_sem]
  have u10 : ((w.alloc (Obj.cells #[Value.int .i64 v0, Value.int .i64 v1, Value.int .i64 x0, Value.int .i64 x1, Value.int .i64 x2, Value.slice a3 n3 c3, Value.int .i64 x4, Value.int .i64 x5, Value.int .i64 x6, Value.int .i64 x7, Value.int .i64 x8, Value.slice a9 n9 c9] 53)).alloc (Obj.cells #[Value.int .i64 v0_, Value.int .i64 v1_, Value.int .i64 y0, Value.int .i64 y1, Value.int .i64 y2, Value.slice a3' n3' c3', Value.int .i64 y4, Value.int .i64 y5, Value.int .i64 y6, Value.int .i64 y7, Value.int .i64 y8, Value.slice a9' n9' c9'] 53)).cell? ⟨w.heap.size, 10, none⟩ = some (.int .i64 x8) := by simp [go_sem]
  have u11 : ((w.alloc (Obj.cells #[Value.int .i64 v0, Value.int .i64 v1, Value.int .i64 x0, Value.int .i64 x1, Value.int .i64 x2, Value.slice a3 n3 c3, Value.int .i64 x4, Value.int .i64 x5, Value.int .i64 x6, Value.int .i64 x7, Value.int .i64 x8, Value.slice a9 n9 c9] 53)).alloc (Obj.cells #[Value.int .i64 v0_, Value.int .i64 v1_, Value.int .i64 y0, Value.int .i64 y1, Value.int .i64 y2, Value.slice a3' n3' c3', Value.int .i64 y4, Value.int .i64 y5, Value.int .i64 y6, Value.int .i64 y7, Value.int .i64 y8, Value.slice a9' n9' c9'] 53)).cell? ⟨w.heap.size, 11, none⟩ = some (.slice a9 n9 c9) := by simp [go_sem]
  have t0 : ((w.alloc (Obj.cells #[Value.int .i64 v0, Value.int .i64 v1, Value.int .i64 x0, Value.int .i64 x1, Value.int .i64 x2, Value.slice a3 n3 c3, Value.int .i64 x4, Value.int .i64 x5, Value.int .i64 x6, Value.int .i64 x7, Value.int .i64 x8, Value.slice a9 n9 c9] 53)).alloc (Obj.cells #[Value.int .i64 v0_, Value.int .i64 v1_, Value.int .i64 y0, Value.int .i64 y1, Value.int .i64 y2, Value.slice a3' n3' c3', Value.int .i64 y4, Value.int .i64 y5, Value.int .i64 y6, Value.int .i64 y7, Value.int .i64 y8, Value.slice a9' n9' c9'] 53)).cell? ⟨w.heap.size + 1, 0, none⟩ = some (.int .i64 v0_) := by simp [go_sem]
  have t1 : ((w.alloc (Obj.cells #[Value.int .i64 v0, Value.int .i64 v1, Value.int .i64 x0, Value.int .i64 x1, Value.int .i64 x2, Value.slice a3 n3 c3, Value.int .i64 x4, Value.int .i64 x5, Value.int .i64 x6, Value.int .i64 x7, Value.int .i64 x8, Value.slice a9 n9 c9] 53)).alloc (Obj.cells #[Value.int .i64 v0_, Value.int .i64 v1_, Value.int .i64 y0, Value.int .i64 y1, Value.int .i64 y2, Value.slice a3' n3' c3', Value.int .i64 y4, Value.int .i64 y5, Value.int .i64 y6, Value.int .i64 y7, Value.int .i64 y8, Value.slice a9' n9' c9'] 53)).cell? ⟨w.heap.size + 1, 1, none⟩ = some (.int .i64 v1_) := by simp [go_sem]
  have t2 : ((w.alloc (Obj.cells #[Value.int .i64 v0, Value.int .i64 v1, Value.int .i64 x0, Value.int .i64 x1, Value.int .i64 x2, Value.slice a3 n3 c3, Value.int .i64 x4, Value.int .i64 x5, Value.int .i64 x6, Value.int .i64 x7, Value.int .i64 x8, Value.slice a9 n9 c9] 53)).alloc (Obj.cells #[Value.int .i64 v0_, Value.int .i64 v1_, Value.int .i64 y0, Value.int .i64 y1, Value.int .i64 y2, Value.slice a3' n3' c3', Value.int .i64 y4, Value.int .i64 y5, Value.int .i64 y6, Value.int .i64 y7, Value.int .i64 y8, Value.slice a9' n9' c9'] 53)).cell? ⟨w.heap.size + 1, 2, none⟩ = some (.int .i64 y0) := by simp [go_sem]
  have t3 : ((w.alloc (Obj.cells #[Value.int .i64 v0, Value.int .i64 v1, Value.int .i64 x0, Value.int .i64 x1, Value.int .i64 x2, Value.slice a3 n3 c3, Value.int .i64 x4, Value.int .i64 x5, Value.int .i64 x6, Value.int .i64 x7, Value.int .i64 x8, Value.slice a9 n9 c9] 53)).alloc (Obj.cells #[Value.int .i64 v0_, Value.int .i64 v1_, Value.int .i64 y0, Value.int .i64 y1, Value.int .i64 y2, Value.slice a3' n3' c3', Value.int .i64 y4, Value.int .i64 y5, Value.int .i64 y6, Value.int .i64 y7, Value.int .i64 y8, Value.slice a9' n9' c9'] 53)).cell? ⟨w.heap.size + 1, 3, none⟩ = some (.int .i64 y1) := by simp [go_sem]
  have t4 : ((w.alloc (Obj.cells #[Value.int .i64 v0, Value.int .i64 v1, Value.int .i64 x0, Value.int .i64 x1, Value.int .i64 x2, Value.slice a3 n3 c3, Value.int .i64 x4, Value.int .i64 x5, Value.int .i64 x6, Value.int .i64 x7, Value.int .i64 x8, Value.slice a9 n9 c9] 53)).alloc (Obj.cells #[Value.int .i64 v0_, Value.int .i64 v1_, Value.int .i64 y0, Value.int .i64 y1, Value.int .i64 y2, Value.slice a3' n3' c3', Value.int .i64 y4, Value.int .i64 y5, Value.int .i64 y6, Value.int .i64 y7, Value.int .i64 y8, Value.slice a9' n9' c9'] 53)).cell? ⟨w.heap.size + 1, 4, none⟩ = some (.int .i64 y2) := by simp [go_sem]
  have t5 : ((w.alloc (Obj.cells #[Value.int .i64 v0, Value.int .i64 v1, Value.int .i64 x0, Value.int .i64 x1, Value.int .i64 x2, Value.slice a3 n3 c3, Value.int .i64 x4, Value.int .i64 x5, Value.int .i64 x6, Value.int .i64 x7, Value.int .i64 x8, Value.slice a9 n9 c9] 53)).alloc (Obj.cells #[Value.int .i64 v0_, Value.int .i64 v1_, Value.int .i64 y0, Value.int .i64 y1, Value.int .i64 y2, Value.slice a3' n3' c3', Value.int .i64 y4, Value.int .i64 y5, Value.int .i64 y6, Value.int .i64 y7, Value.int .i64 y8, Value.slice a9' n9' c9'] 53)).cell? ⟨w.heap.size + 1, 5, none⟩ = some (.slice a3' n3' c3') := by simp [go_sem]
  have t6 : ((w.alloc (Obj.cells #[Value.int .i64 v0, Value.int .i64 v1, Value.int .i64 x0, Value.int .i64 x1, Value.int .i64 x2, Value.slice a3 n3 c3, Value.int .i64 x4, Value.int .i64 x5, Value.int .i64 x6, Value.int .i64 x7, Value.int .i64 x8, Value.slice a9 n9 c9] 53)).alloc (Obj.cells #[Value.int .i64 v0_, Value.int .i64 v1_, Value.int .i64 y0, Value.int .i64 y1, Value.int .i64 y2, Value.slice a3' n3' c3', Value.int .i64 y4, Value.int .i64 y5, Value.int .i64 y6, Value.int .i64 y7, Value.int .i64 y8, Value.slice a9' n9' c9'] 53)).cell? ⟨w.heap.size + 1, 6, none⟩ = some (.int .i64 y4) := by simp [go_sem]
  have t7 : ((w.alloc (Obj.cells #[Value.int .i64 v0, Value.int .i64 v1, Value.int .i64 x0, Value.int .i64 x1, Value.int .i64 x2, Value.slice a3 n3 c3, Value.int .i64 x4, Value.int .i64 x5, Value.int .i64 x6, Value.int .i64 x7, Value.int .i64 x8, Value.slice a9 n9 c9] 53)).alloc (Obj.cells #[Value.int .i64 v0_, Value.int .i64 v1_, Value.int .i64 y0, Value.int .i64 y1, Value.int .i64 y2, Value.slice a3' n3' c3', Value.int .i64 y4, Value.int .i64 y5, Value.int .i64 y6, Value.int .i64 y7, Value.int .i64 y8, Value.slice a9' n9' c9'] 53)).cell? ⟨w.heap.size + 1, 7, none⟩ = some (.int .i64 y5) := by simp [go_sem]
  have t8 : ((w.alloc (Obj.cells #[Value.int .i64 v0, Value.int .i64 v1, Value.int .i64 x0, Value.int .i64 x1, Value.int .i64 x2, Value.slice a3 n3 c3, Value.int .i64 x4, Value.int .i64 x5, Value.int .i64 x6, Value.int .i64 x7, Value.int .i64 x8, Value.slice a9 n9 c9] 53)).alloc (Obj.cells #[Value.int .i64 v0_, Value.int .i64 v1_, Value.int .i64 y0, Value.int .i64 y1, Value.int .i64 y2, Value.slice a3' n3' c3', Value.int .i64 y4, Value.int .i64 y5, Value.int .i64 y6, Value.int .i64 y7, Value.int .i64 y8, Value.slice a9' n9' c9'] 53)).cell? ⟨w.heap.size + 1, 8, none⟩ = some (.int .i64 y6) := by simp [go_sem]
  have t9 : ((w.alloc (Obj.cells #[Value.int .i64 v0, Value.int .i64 v1, Value.int .i64 x0, Value.int .i64 x1, Value.int .i64 x2, Value.slice a3 n3 c3, Value.int .i64 x4, Value.int .i64 x5, Value.int .i64 x6, Value.int .i64 x7, Value.int .i64 x8, Value.slice a9 n9 c9] 53)).alloc (Obj.cells #[Value.int .i64 v0_, Value.int .i64 v1_, Value.int .i64 y0, Value.int .i64 y1, Value.int .i64 y2, Value.slice a3' n3' c3', Value.int .i64 y4, Value.int .i64 y5, Value.int .i64 y6, Value.int .i64 y7, Value.int .i64 y8, Value.slice a9' n9' c9'] 53)).cell? ⟨w.heap.size + 1, 9, none⟩ = some (.int .i64 y7) := by simp [go_sem]
  have t10 : ((w.alloc (Obj.cells #[Value.int .i64 v0, Value.int .i64 v1, Value.int .i64 x0, Value.int .i64 x1, Value.int .i64 x2, Value.slice a3 n3 c3, Value.int .i64 x4, Value.int .i64 x5, Value.int .i64 x6, Value.int .i64 x7, Value.int .i64 x8, Value.slice a9 n9 c9] 53)).alloc (Obj.cells #[Value.int .i64 v0_, Value.int .i64 v1_, Value.int .i64 y0, Value.int .i64 y1, Value.int .i64 y2, Value.slice a3' n3' c3', Value.int .i64 y4, Value.int .i64 y5, Value.int .i64 y6, Value.int .i64 y7, Value.int .i64 y8, Value.slice a9' n9' c9'] 53)).cell? ⟨w.heap.size + 1, 10, none⟩ = some (.int .i64 y8) := by simp [go_sem]
  have t11 : ((w.alloc (Obj.cells #[Value.int .i64 v0, Value.int .i64 v1, Value.int .i64 x0, Value.int .i64 x1, Value.int .i64 x2, Value.slice a3 n3 c3, Value.int .i64 x4, Value.int .i64 x5, Value.int .i64 x6, Value.int .i64 x7, Value.int .i64 x8, Value.slice a9 n9 c9] 53)).alloc (Obj.cells #[Value.int .i64 v0_, Value.int .i64 v1_, Value.int .i64 y0, Value.int .i64 y1, Value.int .i64 y2, Value.slice a3' n3' c3', Value.int .i64 y4, Value.int .i64 y5, Value.int .i64 y6, Value.int .i64 y7, Value.int .i64 y8, Value.slice a9' n9' c9'] 53)).cell? ⟨w.heap.size + 1, 11, none⟩ = some (.slice a9' n9' c9') := by simp [go_sem]
  cases e0 : (v0 == v0_)
  · have E0 := Lib.hid e0
    go_enter Try.func35, Try.ntmps35
    go_wp2_with fail
    go_ret
    exact ⟨retB (by unfold eqVdB; simp [E0.out]), M0⟩
  · have E0 := Lib.hid e0
    cases e1 : (v1 == v1_)
    · have E1 := Lib.hid e1
      go_enter Try.func35, Try.ntmps35
      go_wp2_with fail
      go_ret
      exact ⟨retB (by unfold eqVdB; simp [E1.out]), M0⟩
    · have E1 := Lib.hid e1
      go_enter Try.func35, Try.ntmps35
      go_wp2_with fail
      refine (implEqPk x0 x1 x2 x4 x5 x6 x7 x8 y0 y1 y2 y4 y5 y6 y7 y8 a3 a3' n3 n3' c3 c3' z3 z3' a9 a9' n9 n9' c9 c9' z9 z9' B B' _ (h3.mk M0 hB (.inr (Nat.le_refl _))) (h9.mk M0 hB (.inr (Nat.le_refl _))) (h3'.mk M0 hB' (.inr (Nat.le_refl _))) (h9'.mk M0 hB' (.inr (Nat.le_refl _))) (Nat.le_trans hB M0.size) (Nat.le_trans hB' M0.size) hn3 hn9 hn3' hn9').mono ?_
      rintro e w1 ⟨rfl, m1⟩
      go_wp2_with fail
      go_ret
      exact ⟨retB (by unfold eqVdB; rw [E0.out, E1.out]; rfl), M0.trans m1⟩

end Go.Proofs.Ytbjfcjjfhnjaiaa
