
/- The header of a packet, by the program. -/
import Derived.Test.YtpfjjfbheliinaaPktP
import Derived.Test.YtpfjjfbheliinaaStat
import Derived.Test.YtpfjjfbheliinaaWt
import Derived.Test.YtpfjjfbheliinaaRet
import Derived.Test.YtpfjjfbheliinaaVPkS
import Derived.Test.YtpfjjfbheliinaaAddPath
import Derived.Test.YtpfjjfbheliinaaByteR
import Derived.Deep.RegionHeld3
namespace Go.Proofs.Ytpfjjfbheliinaa
open Go.ChangeShapes Go.WideShapes Go.ChangeAt Go.RowKit
set_option linter.unusedVariables false
set_option maxRecDepth 100000 in
set_option maxHeartbeats 4000000 in
theorem implHdr (q : Nat) (x0 x1 x2 x4 x5 x6 x7 x8 : Int) (w : World) (u0 : w.cell? ⟨q, 0, none⟩ = some (.int .i64 x0)) (u1 : w.cell? ⟨q, 1, none⟩ = some (.int .i64 x1)) (u2 : w.cell? ⟨q, 2, none⟩ = some (.int .i64 x2)) (u4 : w.cell? ⟨q, 4, none⟩ = some (.int .i64 x4)) (u5 : w.cell? ⟨q, 5, none⟩ = some (.int .i64 x5)) (u6 : w.cell? ⟨q, 6, none⟩ = some (.int .i64 x6)) (u7 : w.cell? ⟨q, 7, none⟩ = some (.int .i64 x7)) (u8 : w.cell? ⟨q, 8, none⟩ = some (.int .i64 x8)) :
    Calls Try.prog 106 #[.pointer (some ⟨q, 0, none⟩)] w fun e w' => ∃ b, e = .returned (.slice (some ⟨b, 0, none⟩) 8 8) ∧ Has .i64 w' w'.heap.size (some ⟨b, 0, none⟩) 8 [x0, x1, x2, x4, x5, x6, x7, x8] ∧ Mk0 w w' := by
  go_enter Try.func106, Try.ntmps106
  go_wp2_with fail
  refine wp_region_wkt (fun w' => Mk0 w w' ∧ w'.cell? ⟨q, 0, none⟩ = some (.int .i64 x0) ∧ w'.cell? ⟨q, 1, none⟩ = some (.int .i64 x1) ∧ w'.cell? ⟨q, 2, none⟩ = some (.int .i64 x2) ∧ w'.cell? ⟨q, 4, none⟩ = some (.int .i64 x4) ∧ w'.cell? ⟨q, 5, none⟩ = some (.int .i64 x5) ∧ w'.cell? ⟨q, 6, none⟩ = some (.int .i64 x6) ∧ w'.cell? ⟨q, 7, none⟩ = some (.int .i64 x7) ∧ w'.cell? ⟨q, 8, none⟩ = some (.int .i64 x8)) 32 (by kernel_rfl) (by kernel_rfl) (by kernel_rfl) (by decide) (⟨Mk.drew1 _, u0, u1, u2, u4, u5, u6, u7, u8⟩) ?_
  change WkT _ _ _ _ _ 32 0 _
  first | (refine WkT.skip (m := 31) (k := 0) rfl (by rfl) ?_) | (refine WkT.pure (m := 31) (k := 0) (v := _) rfl (by rfl) (fun wv => by go_simp; try with_reducible rfl) ?_) | (refine WkT.step (m := 31) (k := 0) (v := _) rfl (by rfl) (by kernel_rfl) (fun wv hS => by obtain ⟨s0, s1, s2, s3, s4, s5, s6, s7, s8⟩ := hS; go_simp; try with_reducible rfl) ?_)
  try simp only [Act.put, List.getElem_toArray, List.getElem_cons_zero, List.setIfInBounds_toArray, List.set_cons_zero, List.set_cons_succ]
  first | (refine WkT.skip (m := 30) (k := 1) rfl (by rfl) ?_) | (refine WkT.pure (m := 30) (k := 1) (v := _) rfl (by rfl) (fun wv => by go_simp; try with_reducible rfl) ?_) | (refine WkT.step (m := 30) (k := 1) (v := _) rfl (by rfl) (by kernel_rfl) (fun wv hS => by obtain ⟨s0, s1, s2, s3, s4, s5, s6, s7, s8⟩ := hS; go_simp; try with_reducible rfl) ?_)
  try simp only [Act.put, List.getElem_toArray, List.getElem_cons_succ, List.getElem_cons_zero, List.setIfInBounds_toArray, List.set_cons_zero, List.set_cons_succ]
  first | (refine WkT.skip (m := 29) (k := 2) rfl (by rfl) ?_) | (refine WkT.pure (m := 29) (k := 2) (v := _) rfl (by rfl) (fun wv => by go_simp; try with_reducible rfl) ?_) | (refine WkT.step (m := 29) (k := 2) (v := _) rfl (by rfl) (by kernel_rfl) (fun wv hS => by obtain ⟨s0, s1, s2, s3, s4, s5, s6, s7, s8⟩ := hS; go_simp; try with_reducible rfl) ?_)
  try simp only [Act.put, List.getElem_toArray, List.getElem_cons_succ, List.getElem_cons_zero, List.setIfInBounds_toArray, List.set_cons_zero, List.set_cons_succ]
  first | (refine WkT.skip (m := 28) (k := 3) rfl (by rfl) ?_) | (refine WkT.pure (m := 28) (k := 3) (v := _) rfl (by rfl) (fun wv => by go_simp; try with_reducible rfl) ?_) | (refine WkT.step (m := 28) (k := 3) (v := _) rfl (by rfl) (by kernel_rfl) (fun wv hS => by obtain ⟨s0, s1, s2, s3, s4, s5, s6, s7, s8⟩ := hS; go_simp; try with_reducible rfl) ?_)
  try simp only [Act.put, List.getElem_toArray, List.getElem_cons_succ, List.getElem_cons_zero, List.setIfInBounds_toArray, List.set_cons_zero, List.set_cons_succ]
  first | (refine WkT.skip (m := 27) (k := 4) rfl (by rfl) ?_) | (refine WkT.pure (m := 27) (k := 4) (v := _) rfl (by rfl) (fun wv => by go_simp; try with_reducible rfl) ?_) | (refine WkT.step (m := 27) (k := 4) (v := _) rfl (by rfl) (by kernel_rfl) (fun wv hS => by obtain ⟨s0, s1, s2, s3, s4, s5, s6, s7, s8⟩ := hS; go_simp; try with_reducible rfl) ?_)
  try simp only [Act.put, List.getElem_toArray, List.getElem_cons_succ, List.getElem_cons_zero, List.setIfInBounds_toArray, List.set_cons_zero, List.set_cons_succ]
  first | (refine WkT.skip (m := 26) (k := 5) rfl (by rfl) ?_) | (refine WkT.pure (m := 26) (k := 5) (v := _) rfl (by rfl) (fun wv => by go_simp; try with_reducible rfl) ?_) | (refine WkT.step (m := 26) (k := 5) (v := _) rfl (by rfl) (by kernel_rfl) (fun wv hS => by obtain ⟨s0, s1, s2, s3, s4, s5, s6, s7, s8⟩ := hS; go_simp; try with_reducible rfl) ?_)
  try simp only [Act.put, List.getElem_toArray, List.getElem_cons_succ, List.getElem_cons_zero, List.setIfInBounds_toArray, List.set_cons_zero, List.set_cons_succ]
  first | (refine WkT.skip (m := 25) (k := 6) rfl (by rfl) ?_) | (refine WkT.pure (m := 25) (k := 6) (v := _) rfl (by rfl) (fun wv => by go_simp; try with_reducible rfl) ?_) | (refine WkT.step (m := 25) (k := 6) (v := _) rfl (by rfl) (by kernel_rfl) (fun wv hS => by obtain ⟨s0, s1, s2, s3, s4, s5, s6, s7, s8⟩ := hS; go_simp; try with_reducible rfl) ?_)
  try simp only [Act.put, List.getElem_toArray, List.getElem_cons_succ, List.getElem_cons_zero, List.setIfInBounds_toArray, List.set_cons_zero, List.set_cons_succ]
  first | (refine WkT.skip (m := 24) (k := 7) rfl (by rfl) ?_) | (refine WkT.pure (m := 24) (k := 7) (v := _) rfl (by rfl) (fun wv => by go_simp; try with_reducible rfl) ?_) | (refine WkT.step (m := 24) (k := 7) (v := _) rfl (by rfl) (by kernel_rfl) (fun wv hS => by obtain ⟨s0, s1, s2, s3, s4, s5, s6, s7, s8⟩ := hS; go_simp; try with_reducible rfl) ?_)
  try simp only [Act.put, List.getElem_toArray, List.getElem_cons_succ, List.getElem_cons_zero, List.setIfInBounds_toArray, List.set_cons_zero, List.set_cons_succ]
  first | (refine WkT.skip (m := 23) (k := 8) rfl (by rfl) ?_) | (refine WkT.pure (m := 23) (k := 8) (v := _) rfl (by rfl) (fun wv => by go_simp; try with_reducible rfl) ?_) | (refine WkT.step (m := 23) (k := 8) (v := _) rfl (by rfl) (by kernel_rfl) (fun wv hS => by obtain ⟨s0, s1, s2, s3, s4, s5, s6, s7, s8⟩ := hS; go_simp; try with_reducible rfl) ?_)
  try simp only [Act.put, List.getElem_toArray, List.getElem_cons_succ, List.getElem_cons_zero, List.setIfInBounds_toArray, List.set_cons_zero, List.set_cons_succ]
  first | (refine WkT.skip (m := 22) (k := 9) rfl (by rfl) ?_) | (refine WkT.pure (m := 22) (k := 9) (v := _) rfl (by rfl) (fun wv => by go_simp; try with_reducible rfl) ?_) | (refine WkT.step (m := 22) (k := 9) (v := _) rfl (by rfl) (by kernel_rfl) (fun wv hS => by obtain ⟨s0, s1, s2, s3, s4, s5, s6, s7, s8⟩ := hS; go_simp; try with_reducible rfl) ?_)
  try simp only [Act.put, List.getElem_toArray, List.getElem_cons_succ, List.getElem_cons_zero, List.setIfInBounds_toArray, List.set_cons_zero, List.set_cons_succ]
  first | (refine WkT.skip (m := 21) (k := 10) rfl (by rfl) ?_) | (refine WkT.pure (m := 21) (k := 10) (v := _) rfl (by rfl) (fun wv => by go_simp; try with_reducible rfl) ?_) | (refine WkT.step (m := 21) (k := 10) (v := _) rfl (by rfl) (by kernel_rfl) (fun wv hS => by obtain ⟨s0, s1, s2, s3, s4, s5, s6, s7, s8⟩ := hS; go_simp; try with_reducible rfl) ?_)
  try simp only [Act.put, List.getElem_toArray, List.getElem_cons_succ, List.getElem_cons_zero, List.setIfInBounds_toArray, List.set_cons_zero, List.set_cons_succ]
  first | (refine WkT.skip (m := 20) (k := 11) rfl (by rfl) ?_) | (refine WkT.pure (m := 20) (k := 11) (v := _) rfl (by rfl) (fun wv => by go_simp; try with_reducible rfl) ?_) | (refine WkT.step (m := 20) (k := 11) (v := _) rfl (by rfl) (by kernel_rfl) (fun wv hS => by obtain ⟨s0, s1, s2, s3, s4, s5, s6, s7, s8⟩ := hS; go_simp; try with_reducible rfl) ?_)
  try simp only [Act.put, List.getElem_toArray, List.getElem_cons_succ, List.getElem_cons_zero, List.setIfInBounds_toArray, List.set_cons_zero, List.set_cons_succ]
  first | (refine WkT.skip (m := 19) (k := 12) rfl (by rfl) ?_) | (refine WkT.pure (m := 19) (k := 12) (v := _) rfl (by rfl) (fun wv => by go_simp; try with_reducible rfl) ?_) | (refine WkT.step (m := 19) (k := 12) (v := _) rfl (by rfl) (by kernel_rfl) (fun wv hS => by obtain ⟨s0, s1, s2, s3, s4, s5, s6, s7, s8⟩ := hS; go_simp; try with_reducible rfl) ?_)
  try simp only [Act.put, List.getElem_toArray, List.getElem_cons_succ, List.getElem_cons_zero, List.setIfInBounds_toArray, List.set_cons_zero, List.set_cons_succ]
  first | (refine WkT.skip (m := 18) (k := 13) rfl (by rfl) ?_) | (refine WkT.pure (m := 18) (k := 13) (v := _) rfl (by rfl) (fun wv => by go_simp; try with_reducible rfl) ?_) | (refine WkT.step (m := 18) (k := 13) (v := _) rfl (by rfl) (by kernel_rfl) (fun wv hS => by obtain ⟨s0, s1, s2, s3, s4, s5, s6, s7, s8⟩ := hS; go_simp; try with_reducible rfl) ?_)
  try simp only [Act.put, List.getElem_toArray, List.getElem_cons_succ, List.getElem_cons_zero, List.setIfInBounds_toArray, List.set_cons_zero, List.set_cons_succ]
  first | (refine WkT.skip (m := 17) (k := 14) rfl (by rfl) ?_) | (refine WkT.pure (m := 17) (k := 14) (v := _) rfl (by rfl) (fun wv => by go_simp; try with_reducible rfl) ?_) | (refine WkT.step (m := 17) (k := 14) (v := _) rfl (by rfl) (by kernel_rfl) (fun wv hS => by obtain ⟨s0, s1, s2, s3, s4, s5, s6, s7, s8⟩ := hS; go_simp; try with_reducible rfl) ?_)
  try simp only [Act.put, List.getElem_toArray, List.getElem_cons_succ, List.getElem_cons_zero, List.setIfInBounds_toArray, List.set_cons_zero, List.set_cons_succ]
  first | (refine WkT.skip (m := 16) (k := 15) rfl (by rfl) ?_) | (refine WkT.pure (m := 16) (k := 15) (v := _) rfl (by rfl) (fun wv => by go_simp; try with_reducible rfl) ?_) | (refine WkT.step (m := 16) (k := 15) (v := _) rfl (by rfl) (by kernel_rfl) (fun wv hS => by obtain ⟨s0, s1, s2, s3, s4, s5, s6, s7, s8⟩ := hS; go_simp; try with_reducible rfl) ?_)
  try simp only [Act.put, List.getElem_toArray, List.getElem_cons_succ, List.getElem_cons_zero, List.setIfInBounds_toArray, List.set_cons_zero, List.set_cons_succ]
  first | (refine WkT.skip (m := 15) (k := 16) rfl (by rfl) ?_) | (refine WkT.pure (m := 15) (k := 16) (v := _) rfl (by rfl) (fun wv => by go_simp; try with_reducible rfl) ?_) | (refine WkT.step (m := 15) (k := 16) (v := _) rfl (by rfl) (by kernel_rfl) (fun wv hS => by obtain ⟨s0, s1, s2, s3, s4, s5, s6, s7, s8⟩ := hS; go_simp; try with_reducible rfl) ?_)
  try simp only [Act.put, List.getElem_toArray, List.getElem_cons_succ, List.getElem_cons_zero, List.setIfInBounds_toArray, List.set_cons_zero, List.set_cons_succ]
  first | (refine WkT.skip (m := 14) (k := 17) rfl (by rfl) ?_) | (refine WkT.pure (m := 14) (k := 17) (v := _) rfl (by rfl) (fun wv => by go_simp; try with_reducible rfl) ?_) | (refine WkT.step (m := 14) (k := 17) (v := _) rfl (by rfl) (by kernel_rfl) (fun wv hS => by obtain ⟨s0, s1, s2, s3, s4, s5, s6, s7, s8⟩ := hS; go_simp; try with_reducible rfl) ?_)
  try simp only [Act.put, List.getElem_toArray, List.getElem_cons_succ, List.getElem_cons_zero, List.setIfInBounds_toArray, List.set_cons_zero, List.set_cons_succ]
  first | (refine WkT.skip (m := 13) (k := 18) rfl (by rfl) ?_) | (refine WkT.pure (m := 13) (k := 18) (v := _) rfl (by rfl) (fun wv => by go_simp; try with_reducible rfl) ?_) | (refine WkT.step (m := 13) (k := 18) (v := _) rfl (by rfl) (by kernel_rfl) (fun wv hS => by obtain ⟨s0, s1, s2, s3, s4, s5, s6, s7, s8⟩ := hS; go_simp; try with_reducible rfl) ?_)
  try simp only [Act.put, List.getElem_toArray, List.getElem_cons_succ, List.getElem_cons_zero, List.setIfInBounds_toArray, List.set_cons_zero, List.set_cons_succ]
  first | (refine WkT.skip (m := 12) (k := 19) rfl (by rfl) ?_) | (refine WkT.pure (m := 12) (k := 19) (v := _) rfl (by rfl) (fun wv => by go_simp; try with_reducible rfl) ?_) | (refine WkT.step (m := 12) (k := 19) (v := _) rfl (by rfl) (by kernel_rfl) (fun wv hS => by obtain ⟨s0, s1, s2, s3, s4, s5, s6, s7, s8⟩ := hS; go_simp; try with_reducible rfl) ?_)
  try simp only [Act.put, List.getElem_toArray, List.getElem_cons_succ, List.getElem_cons_zero, List.setIfInBounds_toArray, List.set_cons_zero, List.set_cons_succ]
  first | (refine WkT.skip (m := 11) (k := 20) rfl (by rfl) ?_) | (refine WkT.pure (m := 11) (k := 20) (v := _) rfl (by rfl) (fun wv => by go_simp; try with_reducible rfl) ?_) | (refine WkT.step (m := 11) (k := 20) (v := _) rfl (by rfl) (by kernel_rfl) (fun wv hS => by obtain ⟨s0, s1, s2, s3, s4, s5, s6, s7, s8⟩ := hS; go_simp; try with_reducible rfl) ?_)
  try simp only [Act.put, List.getElem_toArray, List.getElem_cons_succ, List.getElem_cons_zero, List.setIfInBounds_toArray, List.set_cons_zero, List.set_cons_succ]
  first | (refine WkT.skip (m := 10) (k := 21) rfl (by rfl) ?_) | (refine WkT.pure (m := 10) (k := 21) (v := _) rfl (by rfl) (fun wv => by go_simp; try with_reducible rfl) ?_) | (refine WkT.step (m := 10) (k := 21) (v := _) rfl (by rfl) (by kernel_rfl) (fun wv hS => by obtain ⟨s0, s1, s2, s3, s4, s5, s6, s7, s8⟩ := hS; go_simp; try with_reducible rfl) ?_)
  try simp only [Act.put, List.getElem_toArray, List.getElem_cons_succ, List.getElem_cons_zero, List.setIfInBounds_toArray, List.set_cons_zero, List.set_cons_succ]
  first | (refine WkT.skip (m := 9) (k := 22) rfl (by rfl) ?_) | (refine WkT.pure (m := 9) (k := 22) (v := _) rfl (by rfl) (fun wv => by go_simp; try with_reducible rfl) ?_) | (refine WkT.step (m := 9) (k := 22) (v := _) rfl (by rfl) (by kernel_rfl) (fun wv hS => by obtain ⟨s0, s1, s2, s3, s4, s5, s6, s7, s8⟩ := hS; go_simp; try with_reducible rfl) ?_)
  try simp only [Act.put, List.getElem_toArray, List.getElem_cons_succ, List.getElem_cons_zero, List.setIfInBounds_toArray, List.set_cons_zero, List.set_cons_succ]
  first | (refine WkT.skip (m := 8) (k := 23) rfl (by rfl) ?_) | (refine WkT.pure (m := 8) (k := 23) (v := _) rfl (by rfl) (fun wv => by go_simp; try with_reducible rfl) ?_) | (refine WkT.step (m := 8) (k := 23) (v := _) rfl (by rfl) (by kernel_rfl) (fun wv hS => by obtain ⟨s0, s1, s2, s3, s4, s5, s6, s7, s8⟩ := hS; go_simp; try with_reducible rfl) ?_)
  try simp only [Act.put, List.getElem_toArray, List.getElem_cons_succ, List.getElem_cons_zero, List.setIfInBounds_toArray, List.set_cons_zero, List.set_cons_succ]
  first | (refine WkT.skip (m := 7) (k := 24) rfl (by rfl) ?_) | (refine WkT.pure (m := 7) (k := 24) (v := _) rfl (by rfl) (fun wv => by go_simp; try with_reducible rfl) ?_) | (refine WkT.step (m := 7) (k := 24) (v := _) rfl (by rfl) (by kernel_rfl) (fun wv hS => by obtain ⟨s0, s1, s2, s3, s4, s5, s6, s7, s8⟩ := hS; go_simp; try with_reducible rfl) ?_)
  try simp only [Act.put, List.getElem_toArray, List.getElem_cons_succ, List.getElem_cons_zero, List.setIfInBounds_toArray, List.set_cons_zero, List.set_cons_succ]
  first | (refine WkT.skip (m := 6) (k := 25) rfl (by rfl) ?_) | (refine WkT.pure (m := 6) (k := 25) (v := _) rfl (by rfl) (fun wv => by go_simp; try with_reducible rfl) ?_) | (refine WkT.step (m := 6) (k := 25) (v := _) rfl (by rfl) (by kernel_rfl) (fun wv hS => by obtain ⟨s0, s1, s2, s3, s4, s5, s6, s7, s8⟩ := hS; go_simp; try with_reducible rfl) ?_)
  try simp only [Act.put, List.getElem_toArray, List.getElem_cons_succ, List.getElem_cons_zero, List.setIfInBounds_toArray, List.set_cons_zero, List.set_cons_succ]
  first | (refine WkT.skip (m := 5) (k := 26) rfl (by rfl) ?_) | (refine WkT.pure (m := 5) (k := 26) (v := _) rfl (by rfl) (fun wv => by go_simp; try with_reducible rfl) ?_) | (refine WkT.step (m := 5) (k := 26) (v := _) rfl (by rfl) (by kernel_rfl) (fun wv hS => by obtain ⟨s0, s1, s2, s3, s4, s5, s6, s7, s8⟩ := hS; go_simp; try with_reducible rfl) ?_)
  try simp only [Act.put, List.getElem_toArray, List.getElem_cons_succ, List.getElem_cons_zero, List.setIfInBounds_toArray, List.set_cons_zero, List.set_cons_succ]
  first | (refine WkT.skip (m := 4) (k := 27) rfl (by rfl) ?_) | (refine WkT.pure (m := 4) (k := 27) (v := _) rfl (by rfl) (fun wv => by go_simp; try with_reducible rfl) ?_) | (refine WkT.step (m := 4) (k := 27) (v := _) rfl (by rfl) (by kernel_rfl) (fun wv hS => by obtain ⟨s0, s1, s2, s3, s4, s5, s6, s7, s8⟩ := hS; go_simp; try with_reducible rfl) ?_)
  try simp only [Act.put, List.getElem_toArray, List.getElem_cons_succ, List.getElem_cons_zero, List.setIfInBounds_toArray, List.set_cons_zero, List.set_cons_succ]
  first | (refine WkT.skip (m := 3) (k := 28) rfl (by rfl) ?_) | (refine WkT.pure (m := 3) (k := 28) (v := _) rfl (by rfl) (fun wv => by go_simp; try with_reducible rfl) ?_) | (refine WkT.step (m := 3) (k := 28) (v := _) rfl (by rfl) (by kernel_rfl) (fun wv hS => by obtain ⟨s0, s1, s2, s3, s4, s5, s6, s7, s8⟩ := hS; go_simp; try with_reducible rfl) ?_)
  try simp only [Act.put, List.getElem_toArray, List.getElem_cons_succ, List.getElem_cons_zero, List.setIfInBounds_toArray, List.set_cons_zero, List.set_cons_succ]
  first | (refine WkT.skip (m := 2) (k := 29) rfl (by rfl) ?_) | (refine WkT.pure (m := 2) (k := 29) (v := _) rfl (by rfl) (fun wv => by go_simp; try with_reducible rfl) ?_) | (refine WkT.step (m := 2) (k := 29) (v := _) rfl (by rfl) (by kernel_rfl) (fun wv hS => by obtain ⟨s0, s1, s2, s3, s4, s5, s6, s7, s8⟩ := hS; go_simp; try with_reducible rfl) ?_)
  try simp only [Act.put, List.getElem_toArray, List.getElem_cons_succ, List.getElem_cons_zero, List.setIfInBounds_toArray, List.set_cons_zero, List.set_cons_succ]
  first | (refine WkT.skip (m := 1) (k := 30) rfl (by rfl) ?_) | (refine WkT.pure (m := 1) (k := 30) (v := _) rfl (by rfl) (fun wv => by go_simp; try with_reducible rfl) ?_) | (refine WkT.step (m := 1) (k := 30) (v := _) rfl (by rfl) (by kernel_rfl) (fun wv hS => by obtain ⟨s0, s1, s2, s3, s4, s5, s6, s7, s8⟩ := hS; go_simp; try with_reducible rfl) ?_)
  try simp only [Act.put, List.getElem_toArray, List.getElem_cons_succ, List.getElem_cons_zero, List.setIfInBounds_toArray, List.set_cons_zero, List.set_cons_succ]
  first | (refine WkT.skip (m := 0) (k := 31) rfl (by rfl) ?_) | (refine WkT.pure (m := 0) (k := 31) (v := _) rfl (by rfl) (fun wv => by go_simp; try with_reducible rfl) ?_) | (refine WkT.step (m := 0) (k := 31) (v := _) rfl (by rfl) (by kernel_rfl) (fun wv hS => by obtain ⟨s0, s1, s2, s3, s4, s5, s6, s7, s8⟩ := hS; go_simp; try with_reducible rfl) ?_)
  try simp only [Act.put, List.getElem_toArray, List.getElem_cons_succ, List.getElem_cons_zero, List.setIfInBounds_toArray, List.set_cons_zero, List.set_cons_succ]
  refine WkT.done fun wE hE => ?_
  clear u0 u1 u2 u4 u5 u6 u7 u8
  obtain ⟨mE, u0, u1, u2, u4, u5, u6, u7, u8⟩ := hE
  simp only [List.drop_succ_cons, List.drop_zero]
  go_wp2_with fail
  simp only [noPan]
  go_wp2_with fail
  go_ret
  exact ⟨_, rfl, lit_has wE _ [x0, x1, x2, x4, x5, x6, x7, x8] 8 rfl, mE.new _⟩

end Go.Proofs.Ytpfjjfbheliinaa
namespace Go.Proofs.Ytpfjjfbheliinaa
open Go.ChangeShapes Go.WideShapes Go.ChangeAt Go.RowKit
set_option linter.unusedVariables false
def pkBytes (x0 x1 x2 x4 x5 x6 x7 x8 : Int) (n3 : Nat) (z3 : List TPathPart) (n9 : Nat) (z9 : List Int) : List Int :=
  if vpkB x0 x1 x2 x4 x5 x6 x7 x8 n3 z3 n9 then (encL [x0, x1, x2, x4, x5, x6, x7, x8] ++ vb (n9 : Int) ++ z9) ++ pathBytes z3 n3 else []
theorem pkBytes_len (x0 x1 x2 x4 x5 x6 x7 x8 : Int) (n3 : Nat) (z3 : List TPathPart) (n9 : Nat) (z9 : List Int) (h : z9.length = n9) (hn : n9 ≤ 1048576) : (pkBytes x0 x1 x2 x4 x5 x6 x7 x8 n3 z3 n9 z9).length ≤ 2097152 := by
  unfold pkBytes
  split
  · have h1 := encL_len [x0, x1, x2, x4, x5, x6, x7, x8]
    have h2 := vb_len (n9 : Int)
    have h3 := pathBytes_len z3 n3
    simp only [List.length_append, List.length_cons, List.length_nil] at *
    omega
  · simp
set_option maxRecDepth 100000 in
set_option maxHeartbeats 4000000 in
theorem specEncPk (x0 x1 x2 x4 x5 x6 x7 x8 : Int) (a3 : Option Addr) (n3 c3 : Nat) (z3 : List TPathPart) (a9 : Option Addr) (n9 c9 B : Nat) (z9 : List Int) (w : World) (h3 : HasPathPart w B a3 n3 z3) (hB : B ≤ w.heap.size) (hn3 : szPathPart z3 n3 ≤ 1048576) (h9 : HasByte w B a9 n9 z9) (hn9 : n9 ≤ 1048576) (hc9 : a9 = none → c9 = 0) :
    Calls Try.prog 50 #[.agg #[.int .i64 x0, .int .i64 x1, .int .i64 x2, .slice a3 n3 c3, .int .i64 x4, .int .i64 x5, .int .i64 x6, .int .i64 x7, .int .i64 x8, .slice a9 n9 c9]] w (OutB w (pkBytes x0 x1 x2 x4 x5 x6 x7 x8 n3 z3 n9 z9)) := by
  have M0 := Mk.alloc w (Obj.cells #[Value.int .i64 x0, Value.int .i64 x1, Value.int .i64 x2, Value.slice a3 n3 c3, Value.int .i64 x4, Value.int .i64 x5, Value.int .i64 x6, Value.int .i64 x7, Value.int .i64 x8, Value.slice a9 n9 c9] 69)
  have u0 : (w.alloc (Obj.cells #[Value.int .i64 x0, Value.int .i64 x1, Value.int .i64 x2, Value.slice a3 n3 c3, Value.int .i64 x4, Value.int .i64 x5, Value.int .i64 x6, Value.int .i64 x7, Value.int .i64 x8, Value.slice a9 n9 c9] 69)).cell? ⟨w.heap.size, 0, none⟩ = some (.int .i64 x0) := by simp [go_sem]
  have u1 : (w.alloc (Obj.cells #[Value.int .i64 x0, Value.int .i64 x1, Value.int .i64 x2, Value.slice a3 n3 c3, Value.int .i64 x4, Value.int .i64 x5, Value.int .i64 x6, Value.int .i64 x7, Value.int .i64 x8, Value.slice a9 n9 c9] 69)).cell? ⟨w.heap.size, 1, none⟩ = some (.int .i64 x1) := by simp [go_sem]
  have u2 : (w.alloc (Obj.cells #[Value.int .i64 x0, Value.int .i64 x1, Value.int .i64 x2, Value.slice a3 n3 c3, Value.int .i64 x4, Value.int .i64 x5, Value.int .i64 x6, Value.int .i64 x7, Value.int .i64 x8, Value.slice a9 n9 c9] 69)).cell? ⟨w.heap.size, 2, none⟩ = some (.int .i64 x2) := by simp [go_sem]
  have u3 : (w.alloc (Obj.cells #[Value.int .i64 x0, Value.int .i64 x1, Value.int .i64 x2, Value.slice a3 n3 c3, Value.int .i64 x4, Value.int .i64 x5, Value.int .i64 x6, Value.int .i64 x7, Value.int .i64 x8, Value.slice a9 n9 c9] 69)).cell? ⟨w.heap.size, 3, none⟩ = some (.slice a3 n3 c3) := by simp [go_sem]
  have u4 : (w.alloc (Obj.cells #[Value.int .i64 x0, Value.int .i64 x1, Value.int .i64 x2, Value.slice a3 n3 c3, Value.int .i64 x4, Value.int .i64 x5, Value.int .i64 x6, Value.int .i64 x7, Value.int .i64 x8, Value.slice a9 n9 c9] 69)).cell? ⟨w.heap.size, 4, none⟩ = some (.int .i64 x4) := by simp [go_sem]
  have u5 : (w.alloc (Obj.cells #[Value.int .i64 x0, Value.int .i64 x1, Value.int .i64 x2, Value.slice a3 n3 c3, Value.int .i64 x4, Value.int .i64 x5, Value.int .i64 x6, Value.int .i64 x7, Value.int .i64 x8, Value.slice a9 n9 c9] 69)).cell? ⟨w.heap.size, 5, none⟩ = some (.int .i64 x5) := by simp [go_sem]
  have u6 : (w.alloc (Obj.cells #[Value.int .i64 x0, Value.int .i64 x1, Value.int .i64 x2, Value.slice a3 n3 c3, Value.int .i64 x4, Value.int .i64 x5, Value.int .i64 x6, Value.int .i64 x7, Value.int .i64 x8, Value.slice a9 n9 c9] 69)).cell? ⟨w.heap.size, 6, none⟩ = some (.int .i64 x6) := by simp [go_sem]
  have u7 : (w.alloc (Obj.cells #[Value.int .i64 x0, Value.int .i64 x1, Value.int .i64 x2, Value.slice a3 n3 c3, Value.int .i64 x4, Value.int .i64 x5, Value.int .i64 x6, Value.int .i64 x7, Value.int .i64 x8, Value.slice a9 n9 c9] 69)).cell? ⟨w.heap.size, 7, none⟩ = some (.int .i64 x7) := by simp [go_sem]
  have u8 : (w.alloc (Obj.cells #[Value.int .i64 x0, Value.int .i64 x1, Value.int .i64 x2, Value.slice a3 n3 c3, Value.int .i64 x4, Value.int .i64 x5, Value.int .i64 x6, Value.int .i64 x7, Value.int .i64 x8, Value.slice a9 n9 c9] 69)).cell? ⟨w.heap.size, 8, none⟩ = some (.int .i64 x8) := by simp [go_sem]
  have u9 : (w.alloc (Obj.cells #[Value.int .i64 x0, Value.int .i64 x1, Value.int .i64 x2, Value.slice a3 n3 c3, Value.int .i64 x4, Value.int .i64 x5, Value.int .i64 x6, Value.int .i64 x7, Value.int .i64 x8, Value.slice a9 n9 c9] 69)).cell? ⟨w.heap.size, 9, none⟩ = some (.slice a9 n9 c9) := by simp [go_sem]
  have IH := Lib.hid (fun (w' : World) (m : Mk0 (w.alloc (Obj.cells #[Value.int .i64 x0, Value.int .i64 x1, Value.int .i64 x2, Value.slice a3 n3 c3, Value.int .i64 x4, Value.int .i64 x5, Value.int .i64 x6, Value.int .i64 x7, Value.int .i64 x8, Value.slice a9 n9 c9] 69)) w') => (And.intro (m.cellAt u0) (And.intro (m.cellAt u1) (And.intro (m.cellAt u2) (And.intro (m.cellAt u3) (And.intro (m.cellAt u4) (And.intro (m.cellAt u5) (And.intro (m.cellAt u6) (And.intro (m.cellAt u7) (And.intro (m.cellAt u8) (m.cellAt u9)))))))))))
  cases hv : vpkB x0 x1 x2 x4 x5 x6 x7 x8 n3 z3 n9
  · have hr : pkBytes x0 x1 x2 x4 x5 x6 x7 x8 n3 z3 n9 z9 = [] := by simp [pkBytes, hv]
    rw [hr]
    clear hr
    have HV := Lib.hid hv
    clear hv
    go_enter Try.func50, Try.ntmps50
    go_wp2_with fail
    refine ((specVPk x0 x1 x2 x4 x5 x6 x7 x8 a3 n3 c3 z3 a9 n9 c9 B _ (h3.mk M0 hB (.inr (Nat.le_refl _))) (Nat.le_trans hB M0.size) hn3).mono fun e w' h => by rw [HV.out] at h; exact h).mono ?_
    rintro e w1 ⟨rfl, m1⟩
    clear u0 u1 u2 u3 u4 u5 u6 u7 u8 u9
    obtain ⟨u0, u1, u2, u3, u4, u5, u6, u7, u8, u9⟩ := IH.out _ m1
    have M1 := M0.trans m1
    have ob := OwB.nil w1
    go_wp2_with fail
    go_ret
    exact OwB.out (ob.low M1.size) (M1.new _)
  · have hr : pkBytes x0 x1 x2 x4 x5 x6 x7 x8 n3 z3 n9 z9 = (encL [x0, x1, x2, x4, x5, x6, x7, x8] ++ vb (n9 : Int) ++ z9) ++ pathBytes z3 n3 := by simp [pkBytes, hv]
    rw [hr]
    clear hr
    have HV := Lib.hid hv
    clear hv
    go_enter Try.func50, Try.ntmps50
    go_wp2_with fail
    refine ((specVPk x0 x1 x2 x4 x5 x6 x7 x8 a3 n3 c3 z3 a9 n9 c9 B _ (h3.mk M0 hB (.inr (Nat.le_refl _))) (Nat.le_trans hB M0.size) hn3).mono fun e w' h => by rw [HV.out] at h; exact h).mono ?_
    rintro e w1 ⟨rfl, m1⟩
    clear u0 u1 u2 u3 u4 u5 u6 u7 u8 u9
    obtain ⟨u0, u1, u2, u3, u4, u5, u6, u7, u8, u9⟩ := IH.out _ m1
    have M1 := M0.trans m1
    have hh := lit_has w1 3 [x0, x1, x2, x4, x5, x6, x7, x8] 8 rfl
    have M2 := m1
    go_wp2_with fail
    refine (specEncodeInts (some ⟨w1.heap.size, 0, none⟩) 8 8 [x0, x1, x2, x4, x5, x6, x7, x8] _ hh (by omega)).mono ?_
    rintro e w3 hob
    obtain ⟨v3, rfl, ob3, m3⟩ := OwB.of hob
    rw [encN_all _ 8 rfl] at ob3
    replace m3 := (Mk.alloc w1 _).trans m3
    have M3 := M2.trans m3
    clear u0 u1 u2 u3 u4 u5 u6 u7 u8 u9
    obtain ⟨u0, u1, u2, u3, u4, u5, u6, u7, u8, u9⟩ := IH.out _ M3
    obtain ⟨A, L, cc, rfl, hcc, hA, hLL⟩ := ob3.slice
    have hLb : L ≤ 48 := by have h1 := encL_len [x0, x1, x2, x4, x5, x6, x7, x8]; simp only [List.length_cons, List.length_nil] at h1; rw [hLL.out]; omega
    have HC9 := Lib.hid hc9
    clear hc9 hh ob3
    have HC := Lib.hid hcc
    clear hcc
    have HR : ∀ w', Mk0 w3 w' → Has .u8 w' w'.heap.size A L (encL [x0, x1, x2, x4, x5, x6, x7, x8]) := fun w' m => hA.next m.below0
    have HP9 : ∀ w', Mk0 w3 w' → Has .u8 w' w'.heap.size a9 n9 z9 := fun w' m => (hasR_int.1 ((h9.mk ((M0.trans M3).trans m) hB (.inr (Nat.le_refl _))).mono (Nat.le_trans hB ((M0.trans M3).trans m).size)))
    have hB3 := Nat.le_trans hB (M0.trans M3).size
    have h3W := h3.mk (M0.trans M3) hB (.inr (Nat.le_refl _))
    have hab : abR (encL [x0, x1, x2, x4, x5, x6, x7, x8]) z9 = encL [x0, x1, x2, x4, x5, x6, x7, x8] ++ vb (n9 : Int) ++ z9 := by unfold abR; rw [show z9.length = n9 from h9.1]
    have habl : (encL [x0, x1, x2, x4, x5, x6, x7, x8] ++ vb (n9 : Int) ++ z9).length ≤ 1048700 := by have h1 := encL_len [x0, x1, x2, x4, x5, x6, x7, x8]; have h2 := vb_len (n9 : Int); have h4 : z9.length = n9 := h9.1; simp only [List.length_append, List.length_cons, List.length_nil] at *; omega
    have HAB := Lib.hid hab
    have HABL := Lib.hid habl
    clear hab habl
    go_wp2_with fail
    go_region_held3 (fun w' => Mk0 w3 w' ∧ w'.cell? ⟨w.heap.size, 3, none⟩ = some (.slice a3 n3 c3) ∧ w'.cell? ⟨w.heap.size, 9, none⟩ = some (.slice a9 n9 c9)) (first | exact ⟨Mk.drew1 _, u3, u9⟩ | (obtain ⟨s0, s1, s2⟩ := ‹Mk0 w3 _ ∧ _›; exact ⟨s0.trans mm, mm.cellAt s1, mm.cellAt s2⟩) | exact ⟨nn, nn.cellAt u3, nn.cellAt u9⟩) (first | (go_at_call 103; refine (specAppendBytes A a9 L cc n9 c9 (encL [x0, x1, x2, x4, x5, x6, x7, x8]) z9 _ (HR _ (‹Mk0 w3 _ ∧ _›).1) HC.out (by omega) (HP9 _ (‹Mk0 w3 _ ∧ _›).1) HC9.out (by omega)).mono ?_; rintro e wa hob; obtain ⟨v4, rfl, ob4, mm⟩ := OwB.of hob; have hsz := (‹Mk0 w3 _ ∧ _›).1.size) | (go_at_call 102; obtain ⟨A4, L4, c4, rfl, hc4, hA4, hL4⟩ := (HAB.out ▸ ob4).slice; refine (specAppPath a3 n3 c3 B z3 A4 L4 c4 (encL [x0, x1, x2, x4, x5, x6, x7, x8] ++ vb (n9 : Int) ++ z9) _ (h3W.mk (‹Mk0 w3 _ ∧ _›).1 hB3 (.inr (Nat.le_refl _))) (Nat.le_trans hB3 (‹Mk0 w3 _ ∧ _›).1.size) hn3 hA4 hc4 (by rw [hL4.out]; exact Nat.le_trans HABL.out (by omega))).mono ?_; rintro e wb hob5; obtain ⟨v5, rfl, ob5, mm5⟩ := OwB.of hob5; have hsz5 := (‹Mk0 w3 _ ∧ _›).1.size; have nn := (‹Mk0 w3 _ ∧ _›).1.trans mm5))
    refine ‹∀ (a : Act) (w : World), _ → _› _ _ ?_
    go_wp2_with fail
    go_ret
    exact (ob5.low (Nat.le_trans (M0.trans M3).size hsz5)).out ((M0.trans M3).trans (‹Mk0 w3 _ ∧ _›).1)

theorem specEncPkR (x0 x1 x2 x4 x5 x6 x7 x8 : Int) (a3 : Option Addr) (n3 c3 : Nat) (z3 : List TPathPart) (a9 : Option Addr) (n9 c9 B : Nat) (z9 : List Int) (w : World) (h3 : HasPathPart w B a3 n3 z3) (hB : B ≤ w.heap.size) (hn3 : szPathPart z3 n3 ≤ 1048576) (h9 : HasByte w B a9 n9 z9) (hn9 : n9 ≤ 1048576) (hc9 : a9 = none → c9 = 0) :
    Calls Try.prog 50 #[.agg #[.int .i64 x0, .int .i64 x1, .int .i64 x2, .slice a3 n3 c3, .int .i64 x4, .int .i64 x5, .int .i64 x6, .int .i64 x7, .int .i64 x8, .slice a9 n9 c9]] w (OutRows 1 (icell .u8) w (pkBytes x0 x1 x2 x4 x5 x6 x7 x8 n3 z3 n9 z9)) :=
  (specEncPk x0 x1 x2 x4 x5 x6 x7 x8 a3 n3 c3 z3 a9 n9 c9 B z9 w h3 hB hn3 h9 hn9 hc9).mono fun _ _ h => h.rows

set_option maxRecDepth 100000 in
set_option maxHeartbeats 4000000 in
theorem implEncPk (x0 x1 x2 x4 x5 x6 x7 x8 : Int) (a3 : Option Addr) (n3 c3 : Nat) (z3 : List TPathPart) (a9 : Option Addr) (n9 c9 B : Nat) (z9 : List Int) (w : World) (h3 : HasPathPart w B a3 n3 z3) (hB : B ≤ w.heap.size) (hn3 : szPathPart z3 n3 ≤ 1048576) (h9 : HasByte w B a9 n9 z9) (hn9 : n9 ≤ 1048576) (hc9 : a9 = none → c9 = 0) :
    Calls Try.prog 52 #[.agg #[.int .i64 x0, .int .i64 x1, .int .i64 x2, .slice a3 n3 c3, .int .i64 x4, .int .i64 x5, .int .i64 x6, .int .i64 x7, .int .i64 x8, .slice a9 n9 c9]] w (OutB w (pkBytes x0 x1 x2 x4 x5 x6 x7 x8 n3 z3 n9 z9)) := by
  have M0 := Mk.alloc w (Obj.cells #[Value.int .i64 x0, Value.int .i64 x1, Value.int .i64 x2, Value.slice a3 n3 c3, Value.int .i64 x4, Value.int .i64 x5, Value.int .i64 x6, Value.int .i64 x7, Value.int .i64 x8, Value.slice a9 n9 c9] 69)
  have u0 : (w.alloc (Obj.cells #[Value.int .i64 x0, Value.int .i64 x1, Value.int .i64 x2, Value.slice a3 n3 c3, Value.int .i64 x4, Value.int .i64 x5, Value.int .i64 x6, Value.int .i64 x7, Value.int .i64 x8, Value.slice a9 n9 c9] 69)).cell? ⟨w.heap.size, 0, none⟩ = some (.int .i64 x0) := by simp [go_sem]
  have u1 : (w.alloc (Obj.cells #[Value.int .i64 x0, Value.int .i64 x1, Value.int .i64 x2, Value.slice a3 n3 c3, Value.int .i64 x4, Value.int .i64 x5, Value.int .i64 x6, Value.int .i64 x7, Value.int .i64 x8, Value.slice a9 n9 c9] 69)).cell? ⟨w.heap.size, 1, none⟩ = some (.int .i64 x1) := by simp [go_sem]
  have u2 : (w.alloc (Obj.cells #[Value.int .i64 x0, Value.int .i64 x1, Value.int .i64 x2, Value.slice a3 n3 c3, Value.int .i64 x4, Value.int .i64 x5, Value.int .i64 x6, Value.int .i64 x7, Value.int .i64 x8, Value.slice a9 n9 c9] 69)).cell? ⟨w.heap.size, 2, none⟩ = some (.int .i64 x2) := by simp [go_sem]
  have u3 : (w.alloc (Obj.cells #[Value.int .i64 x0, Value.int .i64 x1, Value.int .i64 x2, Value.slice a3 n3 c3, Value.int .i64 x4, Value.int .i64 x5, Value.int .i64 x6, Value.int .i64 x7, Value.int .i64 x8, Value.slice a9 n9 c9] 69)).cell? ⟨w.heap.size, 3, none⟩ = some (.slice a3 n3 c3) := by simp [go_sem]
  have u4 : (w.alloc (Obj.cells #[Value.int .i64 x0, Value.int .i64 x1, Value.int .i64 x2, Value.slice a3 n3 c3, Value.int .i64 x4, Value.int .i64 x5, Value.int .i64 x6, Value.int .i64 x7, Value.int .i64 x8, Value.slice a9 n9 c9] 69)).cell? ⟨w.heap.size, 4, none⟩ = some (.int .i64 x4) := by simp [go_sem]
  have u5 : (w.alloc (Obj.cells #[Value.int .i64 x0, Value.int .i64 x1, Value.int .i64 x2, Value.slice a3 n3 c3, Value.int .i64 x4, Value.int .i64 x5, Value.int .i64 x6, Value.int .i64 x7, Value.int .i64 x8, Value.slice a9 n9 c9] 69)).cell? ⟨w.heap.size, 5, none⟩ = some (.int .i64 x5) := by simp [go_sem]
  have u6 : (w.alloc (Obj.cells #[Value.int .i64 x0, Value.int .i64 x1, Value.int .i64 x2, Value.slice a3 n3 c3, Value.int .i64 x4, Value.int .i64 x5, Value.int .i64 x6, Value.int .i64 x7, Value.int .i64 x8, Value.slice a9 n9 c9] 69)).cell? ⟨w.heap.size, 6, none⟩ = some (.int .i64 x6) := by simp [go_sem]
  have u7 : (w.alloc (Obj.cells #[Value.int .i64 x0, Value.int .i64 x1, Value.int .i64 x2, Value.slice a3 n3 c3, Value.int .i64 x4, Value.int .i64 x5, Value.int .i64 x6, Value.int .i64 x7, Value.int .i64 x8, Value.slice a9 n9 c9] 69)).cell? ⟨w.heap.size, 7, none⟩ = some (.int .i64 x7) := by simp [go_sem]
  have u8 : (w.alloc (Obj.cells #[Value.int .i64 x0, Value.int .i64 x1, Value.int .i64 x2, Value.slice a3 n3 c3, Value.int .i64 x4, Value.int .i64 x5, Value.int .i64 x6, Value.int .i64 x7, Value.int .i64 x8, Value.slice a9 n9 c9] 69)).cell? ⟨w.heap.size, 8, none⟩ = some (.int .i64 x8) := by simp [go_sem]
  have u9 : (w.alloc (Obj.cells #[Value.int .i64 x0, Value.int .i64 x1, Value.int .i64 x2, Value.slice a3 n3 c3, Value.int .i64 x4, Value.int .i64 x5, Value.int .i64 x6, Value.int .i64 x7, Value.int .i64 x8, Value.slice a9 n9 c9] 69)).cell? ⟨w.heap.size, 9, none⟩ = some (.slice a9 n9 c9) := by simp [go_sem]
  have IH := Lib.hid (fun (w' : World) (m : Mk0 (w.alloc (Obj.cells #[Value.int .i64 x0, Value.int .i64 x1, Value.int .i64 x2, Value.slice a3 n3 c3, Value.int .i64 x4, Value.int .i64 x5, Value.int .i64 x6, Value.int .i64 x7, Value.int .i64 x8, Value.slice a9 n9 c9] 69)) w') => (And.intro (m.cellAt u0) (And.intro (m.cellAt u1) (And.intro (m.cellAt u2) (And.intro (m.cellAt u3) (And.intro (m.cellAt u4) (And.intro (m.cellAt u5) (And.intro (m.cellAt u6) (And.intro (m.cellAt u7) (And.intro (m.cellAt u8) (m.cellAt u9)))))))))))
  cases hv : vpkB x0 x1 x2 x4 x5 x6 x7 x8 n3 z3 n9
  · have hr : pkBytes x0 x1 x2 x4 x5 x6 x7 x8 n3 z3 n9 z9 = [] := by simp [pkBytes, hv]
    rw [hr]
    clear hr
    have HV := Lib.hid hv
    clear hv
    go_enter Try.func52, Try.ntmps52
    go_wp2_with fail
    refine ((implVPk x0 x1 x2 x4 x5 x6 x7 x8 a3 n3 c3 z3 a9 n9 c9 B _ (h3.mk M0 hB (.inr (Nat.le_refl _))) (Nat.le_trans hB M0.size) hn3).mono fun e w' h => by rw [HV.out] at h; exact h).mono ?_
    rintro e w1 ⟨rfl, m1⟩
    clear u0 u1 u2 u3 u4 u5 u6 u7 u8 u9
    obtain ⟨u0, u1, u2, u3, u4, u5, u6, u7, u8, u9⟩ := IH.out _ m1
    have M1 := M0.trans m1
    have ob := OwB.nil w1
    go_wp2_with fail
    go_ret
    exact OwB.out (ob.low M1.size) (M1.new _)
  · have hr : pkBytes x0 x1 x2 x4 x5 x6 x7 x8 n3 z3 n9 z9 = (encL [x0, x1, x2, x4, x5, x6, x7, x8] ++ vb (n9 : Int) ++ z9) ++ pathBytes z3 n3 := by simp [pkBytes, hv]
    rw [hr]
    clear hr
    have HV := Lib.hid hv
    clear hv
    go_enter Try.func52, Try.ntmps52
    go_wp2_with fail
    refine ((implVPk x0 x1 x2 x4 x5 x6 x7 x8 a3 n3 c3 z3 a9 n9 c9 B _ (h3.mk M0 hB (.inr (Nat.le_refl _))) (Nat.le_trans hB M0.size) hn3).mono fun e w' h => by rw [HV.out] at h; exact h).mono ?_
    rintro e w1 ⟨rfl, m1⟩
    clear u0 u1 u2 u3 u4 u5 u6 u7 u8 u9
    obtain ⟨u0, u1, u2, u3, u4, u5, u6, u7, u8, u9⟩ := IH.out _ m1
    have M1 := M0.trans m1
    go_wp2_with fail
    refine (implHdr w.heap.size x0 x1 x2 x4 x5 x6 x7 x8 _ u0 u1 u2 u4 u5 u6 u7 u8).mono ?_
    rintro e w2 ⟨bh, rfl, hh, m2⟩
    have M2 := m1.trans m2
    clear u0 u1 u2 u3 u4 u5 u6 u7 u8 u9
    obtain ⟨u0, u1, u2, u3, u4, u5, u6, u7, u8, u9⟩ := IH.out _ M2
    go_wp2_with fail
    refine (implEncodeInts (some ⟨bh, 0, none⟩) 8 8 [x0, x1, x2, x4, x5, x6, x7, x8] _ hh (by omega)).mono ?_
    rintro e w3 hob
    obtain ⟨v3, rfl, ob3, m3⟩ := OwB.of hob
    rw [encN_all _ 8 rfl] at ob3
    have M3 := M2.trans m3
    clear u0 u1 u2 u3 u4 u5 u6 u7 u8 u9
    obtain ⟨u0, u1, u2, u3, u4, u5, u6, u7, u8, u9⟩ := IH.out _ M3
    obtain ⟨A, L, cc, rfl, hcc, hA, hLL⟩ := ob3.slice
    have hLb : L ≤ 48 := by have h1 := encL_len [x0, x1, x2, x4, x5, x6, x7, x8]; simp only [List.length_cons, List.length_nil] at h1; rw [hLL.out]; omega
    have HC9 := Lib.hid hc9
    clear hc9 hh ob3
    have HC := Lib.hid hcc
    clear hcc
    have HR : ∀ w', Mk0 w3 w' → Has .u8 w' w'.heap.size A L (encL [x0, x1, x2, x4, x5, x6, x7, x8]) := fun w' m => hA.next m.below0
    have HP9 : ∀ w', Mk0 w3 w' → Has .u8 w' w'.heap.size a9 n9 z9 := fun w' m => (hasR_int.1 ((h9.mk ((M0.trans M3).trans m) hB (.inr (Nat.le_refl _))).mono (Nat.le_trans hB ((M0.trans M3).trans m).size)))
    have hB3 := Nat.le_trans hB (M0.trans M3).size
    have h3W := h3.mk (M0.trans M3) hB (.inr (Nat.le_refl _))
    have hab : abR (encL [x0, x1, x2, x4, x5, x6, x7, x8]) z9 = encL [x0, x1, x2, x4, x5, x6, x7, x8] ++ vb (n9 : Int) ++ z9 := by unfold abR; rw [show z9.length = n9 from h9.1]
    have habl : (encL [x0, x1, x2, x4, x5, x6, x7, x8] ++ vb (n9 : Int) ++ z9).length ≤ 1048700 := by have h1 := encL_len [x0, x1, x2, x4, x5, x6, x7, x8]; have h2 := vb_len (n9 : Int); have h4 : z9.length = n9 := h9.1; simp only [List.length_append, List.length_cons, List.length_nil] at *; omega
    have HAB := Lib.hid hab
    have HABL := Lib.hid habl
    clear hab habl
    go_wp2_with fail
    go_region_held3 (fun w' => Mk0 w3 w' ∧ w'.cell? ⟨w.heap.size, 3, none⟩ = some (.slice a3 n3 c3) ∧ w'.cell? ⟨w.heap.size, 9, none⟩ = some (.slice a9 n9 c9)) (first | exact ⟨Mk.drew1 _, u3, u9⟩ | (obtain ⟨s0, s1, s2⟩ := ‹Mk0 w3 _ ∧ _›; exact ⟨s0.trans mm, mm.cellAt s1, mm.cellAt s2⟩) | exact ⟨nn, nn.cellAt u3, nn.cellAt u9⟩) (first | (go_at_call 108; refine (implAppendBytes A a9 L cc n9 c9 (encL [x0, x1, x2, x4, x5, x6, x7, x8]) z9 _ (HR _ (‹Mk0 w3 _ ∧ _›).1) HC.out (by omega) (HP9 _ (‹Mk0 w3 _ ∧ _›).1) HC9.out (by omega)).mono ?_; rintro e wa hob; obtain ⟨v4, rfl, ob4, mm⟩ := OwB.of hob; have hsz := (‹Mk0 w3 _ ∧ _›).1.size) | (go_at_call 107; refine (implAddPath a3 n3 c3 B z3 v4 (encL [x0, x1, x2, x4, x5, x6, x7, x8] ++ vb (n9 : Int) ++ z9) w3 _ h3W hB3 hn3 (‹Mk0 w3 _ ∧ _›).1 ((HAB.out ▸ ob4).low hsz) (Nat.le_trans HABL.out (by omega))).mono ?_; rintro e wb ⟨v5, rfl, ob5, nn⟩))
    refine ‹∀ (a : Act) (w : World), _ → _› _ _ ?_
    go_wp2_with fail
    go_ret
    exact (ob5.low (M0.trans M3).size).out ((M0.trans M3).trans (‹Mk0 w3 _ ∧ _›).1)

theorem implEncPkR (x0 x1 x2 x4 x5 x6 x7 x8 : Int) (a3 : Option Addr) (n3 c3 : Nat) (z3 : List TPathPart) (a9 : Option Addr) (n9 c9 B : Nat) (z9 : List Int) (w : World) (h3 : HasPathPart w B a3 n3 z3) (hB : B ≤ w.heap.size) (hn3 : szPathPart z3 n3 ≤ 1048576) (h9 : HasByte w B a9 n9 z9) (hn9 : n9 ≤ 1048576) (hc9 : a9 = none → c9 = 0) :
    Calls Try.prog 52 #[.agg #[.int .i64 x0, .int .i64 x1, .int .i64 x2, .slice a3 n3 c3, .int .i64 x4, .int .i64 x5, .int .i64 x6, .int .i64 x7, .int .i64 x8, .slice a9 n9 c9]] w (OutRows 1 (icell .u8) w (pkBytes x0 x1 x2 x4 x5 x6 x7 x8 n3 z3 n9 z9)) :=
  (implEncPk x0 x1 x2 x4 x5 x6 x7 x8 a3 n3 c3 z3 a9 n9 c9 B z9 w h3 hB hn3 h9 hn9 hc9).mono fun _ _ h => h.rows

end Go.Proofs.Ytpfjjfbheliinaa
