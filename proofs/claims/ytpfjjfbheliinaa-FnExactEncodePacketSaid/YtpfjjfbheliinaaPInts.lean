
/- PathInts of both sides. -/
import Derived.Test.YtpfjjfbheliinaaFields
import Derived.Test.YtpfjjfbheliinaaNPathPart
import Derived.Test.YtpfjjfbheliinaaWk
import Derived.Test.YtpfjjfbheliinaaWt
import Derived.Test.YtpfjjfbheliinaaInfo
import Derived.Test.YtpfjjfbheliinaaAppR
namespace Go.Proofs.Ytpfjjfbheliinaa
open Go.ChangeShapes Go.WideShapes Go.ChangeAt Go.RowKit
set_option linter.unusedVariables false
/-- The numbers of a part; of the first k parts. -/
def ptH (x : TPathPart) : List Int := [x.kind, x.ts, x.beta, (x.hops.length : Int)]
def piN (ps : List TPathPart) : Nat → List Int
  | 0 => []
  | k + 1 => piN ps k ++ ptH (ps.getD k default) ++ hopsN (ps.getD k default).hops (ps.getD k default).hops.length
theorem piN_len (ps : List TPathPart) : ∀ k, (piN ps k).length = 4 * k + 5 * sumTo sePathPart ps k
  | 0 => rfl
  | k + 1 => by
    rw [piN, List.length_append, List.length_append, piN_len ps k, hopsN_len, sumTo]
    simp only [ptH, List.length_cons, List.length_nil, sePathPart]
    omega
set_option maxRecDepth 100000 in
set_option maxHeartbeats 4000000 in
theorem implHead (x : TPathPart) (a3 : Option Addr) (n3 c3 : Nat) (w : World) :
    Calls Try.prog 152 #[.agg #[.int .i64 x.kind, .int .i64 x.ts, .int .i64 x.beta, .slice a3 n3 c3]] w fun en w' => ∃ b, en = .returned (.slice (some ⟨b, 0, none⟩) 4 4) ∧ Has .i64 w' w'.heap.size (some ⟨b, 0, none⟩) 4 [x.kind, x.ts, x.beta, (n3 : Int)] ∧ Mk0 w w' := by
  go_enter Try.func152, Try.ntmps152
  go_wp2
  go_ret
  refine ⟨w.heap.size + 1, rfl, ?_, (Mk.alloc w (Obj.cells #[Value.int .i64 x.kind, Value.int .i64 x.ts, Value.int .i64 x.beta, Value.slice a3 n3 c3] 119)).new _⟩
  have h := lit_has (w.alloc (Obj.cells #[Value.int .i64 x.kind, Value.int .i64 x.ts, Value.int .i64 x.beta, Value.slice a3 n3 c3] 119)) 3 [x.kind, x.ts, x.beta, (n3 : Int)] 4 rfl
  rw [World.size_alloc w] at h
  exact h

set_option maxRecDepth 100000 in
set_option maxHeartbeats 4000000 in
theorem specPInts (a : Option Addr) (n c B : Nat) (ps : List TPathPart) (w : World) (h : HasPathPart w B a n ps) (hB : B ≤ w.heap.size) (hn : szPathPart ps n ≤ 1048576) :
    Calls Try.prog 146 #[.agg #[.slice a n c]] w (OutR .i64 w (piN ps n)) := by
  obtain ⟨i0, hi, hz0, hz1, hz2⟩ := info_parts infoI64
  have hby : i0.bytes ≤ 8 := by rw [hz2]; decide
  have hn0 : n ≤ 1048576 := Nat.le_trans (szPathPart_n ps n) hn
  have M0 := Mk.alloc w (Obj.cells #[Value.slice a n c] 67)
  have hs1 : (w.alloc (Obj.cells #[Value.slice a n c] 67)).heap.size = w.heap.size + 1 := by rw [World.size_alloc]
  have hA : ((w.alloc (Obj.cells #[Value.slice a n c] 67)).alloc (.cells #[] 3)).ownsRow (w.alloc (Obj.cells #[Value.slice a n c] 67)).heap.size 3 1 (.slice (some ⟨(w.alloc (Obj.cells #[Value.slice a n c] 67)).heap.size, 0, none⟩) 0 0) 0 (([] : List Int).map (.int .i64)) := own_lit (w.alloc (Obj.cells #[Value.slice a n c] 67)) 3 [] (by simp)
  rw [hs1] at hA
  have ML := Mk.alloc (w.alloc (Obj.cells #[Value.slice a n c] 67)) (.cells #[] 3)
  have k0 : (w.alloc (Obj.cells #[Value.slice a n c] 67)).cell? ⟨w.heap.size, 0, none⟩ = some (.slice a n c) := by simp [go_sem]
  have K0 := Lib.hid k0
  replace k0 := ML.cellAt k0
  go_enter Try.func146, Try.ntmps146
  go_wp2_with fail
  go_loopw [3, 4] (fun v i wr => ∃ k : Nat, k ≤ n ∧ i = .int .i64 k ∧ wr.ownsRow (w.heap.size + 1) 3 1 v (piN ps k).length ((piN ps k).map (.int .i64)) ∧ Mk0 (w.alloc (Obj.cells #[Value.slice a n c] 67)) wr) (fun _ i _ => n - (intOf i).toNat)
  case atStart => exact ⟨0, Nat.zero_le _, rfl, hA, ML⟩
  case round =>
    clear hA ML
    obtain ⟨k, hk, rfl, hown, hM⟩ := hrel
    have hM' := M0.trans hM
    have hlow := hM.size
    rw [hs1] at hlow
    have k0 := hM.cellAt K0.out
    by_cases hlt : k < n
    · obtain ⟨b, off, x, rfl, hb, hx, a3, n3, c3, d0, d1, d2, d3, r3, m3, t3, z3⟩ := HasPathPart.at _ _ _ _ _ _ h hlt
      have hse : (ps.getD k default).hops.length = n3 := by rw [← hx.out]; exact r3.1
      have HS := szPathPart_at ps hlt
      have hpl := piN_len ps k
      have hsp : sePathPart (ps.getD k default) = n3 := hse
      rw [hsp] at HS
      have hn3 : n3 ≤ 1048576 := by omega
      have hLb : (piN ps k).length ≤ 9437184 := by rw [hpl]; omega
      have HP := Lib.hid (show piN ps (k + 1) = piN ps k ++ [x.kind, x.ts, x.beta, (n3 : Int)] ++ hopsN x.hops n3 by rw [piN, ← hx.out, show x.hops.length = n3 from r3.1, ptH, show x.hops.length = n3 from r3.1])
      have HR3 := Lib.hid r3
      clear hse hsp HS hpl r3 m3 t3 z3
      have D3 := Lib.hid d3
      replace d0 := hM'.cellAt d0
      replace d1 := hM'.cellAt d1
      replace d2 := hM'.cellAt d2
      replace d3 := hM'.cellAt d3
      obtain ⟨L, hL⟩ : ∃ L, Hid (L = piN ps k) := ⟨_, Lib.hid rfl⟩
      rw [← hL.out] at hown hLb HP
      have i1 : (0 : Int) ≤ (k : Int) := by omega
      have i2 : (k : Int) < (n : Int) := by omega
      have hbr := World.block_lt_of_cell? _ _ d0
      simp only at hbr
      go_wp2_with fail
      refine wp_region_wkt (fun w' => Mk0 wr w' ∧ w'.cell? ⟨w.heap.size, 0, none⟩ = some (.slice (some ⟨b, off, none⟩) n c) ∧ w'.cell? ⟨b, off + k * 4, none⟩ = some (.int .i64 x.kind) ∧ w'.cell? ⟨b, off + k * 4 + 1, none⟩ = some (.int .i64 x.ts) ∧ w'.cell? ⟨b, off + k * 4 + 2, none⟩ = some (.int .i64 x.beta) ∧ w'.cell? ⟨b, off + k * 4 + 3, none⟩ = some (.slice a3 n3 c3)) 26 (by kernel_rfl) (by kernel_rfl) (by kernel_rfl) (by decide) (⟨Mk.drew1 _, k0, d0, d1, d2, d3⟩) ?_
      change WkT _ _ _ _ _ 26 0 _
      first | (refine WkT.skip (m := 25) (k := 0) rfl (by rfl) ?_) | (refine WkT.pure (m := 25) (k := 0) (v := _) rfl (by rfl) (fun wv => by go_simp; try with_reducible rfl) ?_) | (refine WkT.step (m := 25) (k := 0) (v := _) rfl (by rfl) (by kernel_rfl) (fun wv hS => by obtain ⟨s0, s1, s2, s3, s4, s5⟩ := hS; go_simp; try with_reducible rfl) ?_)
      try simp only [Act.put, List.getElem_toArray, List.getElem_cons_zero, List.setIfInBounds_toArray, List.set_cons_zero, List.set_cons_succ]
      first | (refine WkT.skip (m := 24) (k := 1) rfl (by rfl) ?_) | (refine WkT.pure (m := 24) (k := 1) (v := _) rfl (by rfl) (fun wv => by go_simp; try with_reducible rfl) ?_) | (refine WkT.step (m := 24) (k := 1) (v := _) rfl (by rfl) (by kernel_rfl) (fun wv hS => by obtain ⟨s0, s1, s2, s3, s4, s5⟩ := hS; go_simp; try with_reducible rfl) ?_)
      try simp only [Act.put, List.getElem_toArray, List.getElem_cons_succ, List.getElem_cons_zero, List.setIfInBounds_toArray, List.set_cons_zero, List.set_cons_succ]
      first | (refine WkT.skip (m := 23) (k := 2) rfl (by rfl) ?_) | (refine WkT.pure (m := 23) (k := 2) (v := _) rfl (by rfl) (fun wv => by go_simp; try with_reducible rfl) ?_) | (refine WkT.step (m := 23) (k := 2) (v := _) rfl (by rfl) (by kernel_rfl) (fun wv hS => by obtain ⟨s0, s1, s2, s3, s4, s5⟩ := hS; go_simp; try with_reducible rfl) ?_)
      try simp only [Act.put, List.getElem_toArray, List.getElem_cons_succ, List.getElem_cons_zero, List.setIfInBounds_toArray, List.set_cons_zero, List.set_cons_succ]
      first | (refine WkT.skip (m := 22) (k := 3) rfl (by rfl) ?_) | (refine WkT.pure (m := 22) (k := 3) (v := _) rfl (by rfl) (fun wv => by go_simp; try with_reducible rfl) ?_) | (refine WkT.step (m := 22) (k := 3) (v := _) rfl (by rfl) (by kernel_rfl) (fun wv hS => by obtain ⟨s0, s1, s2, s3, s4, s5⟩ := hS; go_simp; try with_reducible rfl) ?_)
      try simp only [Act.put, List.getElem_toArray, List.getElem_cons_succ, List.getElem_cons_zero, List.setIfInBounds_toArray, List.set_cons_zero, List.set_cons_succ]
      first | (refine WkT.skip (m := 21) (k := 4) rfl (by rfl) ?_) | (refine WkT.pure (m := 21) (k := 4) (v := _) rfl (by rfl) (fun wv => by go_simp; try with_reducible rfl) ?_) | (refine WkT.step (m := 21) (k := 4) (v := _) rfl (by rfl) (by kernel_rfl) (fun wv hS => by obtain ⟨s0, s1, s2, s3, s4, s5⟩ := hS; go_simp; try with_reducible rfl) ?_)
      try simp only [Act.put, List.getElem_toArray, List.getElem_cons_succ, List.getElem_cons_zero, List.setIfInBounds_toArray, List.set_cons_zero, List.set_cons_succ]
      first | (refine WkT.skip (m := 20) (k := 5) rfl (by rfl) ?_) | (refine WkT.pure (m := 20) (k := 5) (v := _) rfl (by rfl) (fun wv => by go_simp; try with_reducible rfl) ?_) | (refine WkT.step (m := 20) (k := 5) (v := _) rfl (by rfl) (by kernel_rfl) (fun wv hS => by obtain ⟨s0, s1, s2, s3, s4, s5⟩ := hS; go_simp; try with_reducible rfl) ?_)
      try simp only [Act.put, List.getElem_toArray, List.getElem_cons_succ, List.getElem_cons_zero, List.setIfInBounds_toArray, List.set_cons_zero, List.set_cons_succ]
      first | (refine WkT.skip (m := 19) (k := 6) rfl (by rfl) ?_) | (refine WkT.pure (m := 19) (k := 6) (v := _) rfl (by rfl) (fun wv => by go_simp; try with_reducible rfl) ?_) | (refine WkT.step (m := 19) (k := 6) (v := _) rfl (by rfl) (by kernel_rfl) (fun wv hS => by obtain ⟨s0, s1, s2, s3, s4, s5⟩ := hS; go_simp; try with_reducible rfl) ?_)
      try simp only [Act.put, List.getElem_toArray, List.getElem_cons_succ, List.getElem_cons_zero, List.setIfInBounds_toArray, List.set_cons_zero, List.set_cons_succ]
      first | (refine WkT.skip (m := 18) (k := 7) rfl (by rfl) ?_) | (refine WkT.pure (m := 18) (k := 7) (v := _) rfl (by rfl) (fun wv => by go_simp; try with_reducible rfl) ?_) | (refine WkT.step (m := 18) (k := 7) (v := _) rfl (by rfl) (by kernel_rfl) (fun wv hS => by obtain ⟨s0, s1, s2, s3, s4, s5⟩ := hS; go_simp; try with_reducible rfl) ?_)
      try simp only [Act.put, List.getElem_toArray, List.getElem_cons_succ, List.getElem_cons_zero, List.setIfInBounds_toArray, List.set_cons_zero, List.set_cons_succ]
      first | (refine WkT.skip (m := 17) (k := 8) rfl (by rfl) ?_) | (refine WkT.pure (m := 17) (k := 8) (v := _) rfl (by rfl) (fun wv => by go_simp; try with_reducible rfl) ?_) | (refine WkT.step (m := 17) (k := 8) (v := _) rfl (by rfl) (by kernel_rfl) (fun wv hS => by obtain ⟨s0, s1, s2, s3, s4, s5⟩ := hS; go_simp; try with_reducible rfl) ?_)
      try simp only [Act.put, List.getElem_toArray, List.getElem_cons_succ, List.getElem_cons_zero, List.setIfInBounds_toArray, List.set_cons_zero, List.set_cons_succ]
      first | (refine WkT.skip (m := 16) (k := 9) rfl (by rfl) ?_) | (refine WkT.pure (m := 16) (k := 9) (v := _) rfl (by rfl) (fun wv => by go_simp; try with_reducible rfl) ?_) | (refine WkT.step (m := 16) (k := 9) (v := _) rfl (by rfl) (by kernel_rfl) (fun wv hS => by obtain ⟨s0, s1, s2, s3, s4, s5⟩ := hS; go_simp; try with_reducible rfl) ?_)
      try simp only [Act.put, List.getElem_toArray, List.getElem_cons_succ, List.getElem_cons_zero, List.setIfInBounds_toArray, List.set_cons_zero, List.set_cons_succ]
      first | (refine WkT.skip (m := 15) (k := 10) rfl (by rfl) ?_) | (refine WkT.pure (m := 15) (k := 10) (v := _) rfl (by rfl) (fun wv => by go_simp; try with_reducible rfl) ?_) | (refine WkT.step (m := 15) (k := 10) (v := _) rfl (by rfl) (by kernel_rfl) (fun wv hS => by obtain ⟨s0, s1, s2, s3, s4, s5⟩ := hS; go_simp; try with_reducible rfl) ?_)
      try simp only [Act.put, List.getElem_toArray, List.getElem_cons_succ, List.getElem_cons_zero, List.setIfInBounds_toArray, List.set_cons_zero, List.set_cons_succ]
      first | (refine WkT.skip (m := 14) (k := 11) rfl (by rfl) ?_) | (refine WkT.pure (m := 14) (k := 11) (v := _) rfl (by rfl) (fun wv => by go_simp; try with_reducible rfl) ?_) | (refine WkT.step (m := 14) (k := 11) (v := _) rfl (by rfl) (by kernel_rfl) (fun wv hS => by obtain ⟨s0, s1, s2, s3, s4, s5⟩ := hS; go_simp; try with_reducible rfl) ?_)
      try simp only [Act.put, List.getElem_toArray, List.getElem_cons_succ, List.getElem_cons_zero, List.setIfInBounds_toArray, List.set_cons_zero, List.set_cons_succ]
      first | (refine WkT.skip (m := 13) (k := 12) rfl (by rfl) ?_) | (refine WkT.pure (m := 13) (k := 12) (v := _) rfl (by rfl) (fun wv => by go_simp; try with_reducible rfl) ?_) | (refine WkT.step (m := 13) (k := 12) (v := _) rfl (by rfl) (by kernel_rfl) (fun wv hS => by obtain ⟨s0, s1, s2, s3, s4, s5⟩ := hS; go_simp; try with_reducible rfl) ?_)
      try simp only [Act.put, List.getElem_toArray, List.getElem_cons_succ, List.getElem_cons_zero, List.setIfInBounds_toArray, List.set_cons_zero, List.set_cons_succ]
      first | (refine WkT.skip (m := 12) (k := 13) rfl (by rfl) ?_) | (refine WkT.pure (m := 12) (k := 13) (v := _) rfl (by rfl) (fun wv => by go_simp; try with_reducible rfl) ?_) | (refine WkT.step (m := 12) (k := 13) (v := _) rfl (by rfl) (by kernel_rfl) (fun wv hS => by obtain ⟨s0, s1, s2, s3, s4, s5⟩ := hS; go_simp; try with_reducible rfl) ?_)
      try simp only [Act.put, List.getElem_toArray, List.getElem_cons_succ, List.getElem_cons_zero, List.setIfInBounds_toArray, List.set_cons_zero, List.set_cons_succ]
      first | (refine WkT.skip (m := 11) (k := 14) rfl (by rfl) ?_) | (refine WkT.pure (m := 11) (k := 14) (v := _) rfl (by rfl) (fun wv => by go_simp; try with_reducible rfl) ?_) | (refine WkT.step (m := 11) (k := 14) (v := _) rfl (by rfl) (by kernel_rfl) (fun wv hS => by obtain ⟨s0, s1, s2, s3, s4, s5⟩ := hS; go_simp; try with_reducible rfl) ?_)
      try simp only [Act.put, List.getElem_toArray, List.getElem_cons_succ, List.getElem_cons_zero, List.setIfInBounds_toArray, List.set_cons_zero, List.set_cons_succ]
      first | (refine WkT.skip (m := 10) (k := 15) rfl (by rfl) ?_) | (refine WkT.pure (m := 10) (k := 15) (v := _) rfl (by rfl) (fun wv => by go_simp; try with_reducible rfl) ?_) | (refine WkT.step (m := 10) (k := 15) (v := _) rfl (by rfl) (by kernel_rfl) (fun wv hS => by obtain ⟨s0, s1, s2, s3, s4, s5⟩ := hS; go_simp; try with_reducible rfl) ?_)
      try simp only [Act.put, List.getElem_toArray, List.getElem_cons_succ, List.getElem_cons_zero, List.setIfInBounds_toArray, List.set_cons_zero, List.set_cons_succ]
      first | (refine WkT.skip (m := 9) (k := 16) rfl (by rfl) ?_) | (refine WkT.pure (m := 9) (k := 16) (v := _) rfl (by rfl) (fun wv => by go_simp; try with_reducible rfl) ?_) | (refine WkT.step (m := 9) (k := 16) (v := _) rfl (by rfl) (by kernel_rfl) (fun wv hS => by obtain ⟨s0, s1, s2, s3, s4, s5⟩ := hS; go_simp; try with_reducible rfl) ?_)
      try simp only [Act.put, List.getElem_toArray, List.getElem_cons_succ, List.getElem_cons_zero, List.setIfInBounds_toArray, List.set_cons_zero, List.set_cons_succ]
      first | (refine WkT.skip (m := 8) (k := 17) rfl (by rfl) ?_) | (refine WkT.pure (m := 8) (k := 17) (v := _) rfl (by rfl) (fun wv => by go_simp; try with_reducible rfl) ?_) | (refine WkT.step (m := 8) (k := 17) (v := _) rfl (by rfl) (by kernel_rfl) (fun wv hS => by obtain ⟨s0, s1, s2, s3, s4, s5⟩ := hS; go_simp; try with_reducible rfl) ?_)
      try simp only [Act.put, List.getElem_toArray, List.getElem_cons_succ, List.getElem_cons_zero, List.setIfInBounds_toArray, List.set_cons_zero, List.set_cons_succ]
      first | (refine WkT.skip (m := 7) (k := 18) rfl (by rfl) ?_) | (refine WkT.pure (m := 7) (k := 18) (v := _) rfl (by rfl) (fun wv => by go_simp; try with_reducible rfl) ?_) | (refine WkT.step (m := 7) (k := 18) (v := _) rfl (by rfl) (by kernel_rfl) (fun wv hS => by obtain ⟨s0, s1, s2, s3, s4, s5⟩ := hS; go_simp; try with_reducible rfl) ?_)
      try simp only [Act.put, List.getElem_toArray, List.getElem_cons_succ, List.getElem_cons_zero, List.setIfInBounds_toArray, List.set_cons_zero, List.set_cons_succ]
      first | (refine WkT.skip (m := 6) (k := 19) rfl (by rfl) ?_) | (refine WkT.pure (m := 6) (k := 19) (v := _) rfl (by rfl) (fun wv => by go_simp; try with_reducible rfl) ?_) | (refine WkT.step (m := 6) (k := 19) (v := _) rfl (by rfl) (by kernel_rfl) (fun wv hS => by obtain ⟨s0, s1, s2, s3, s4, s5⟩ := hS; go_simp; try with_reducible rfl) ?_)
      try simp only [Act.put, List.getElem_toArray, List.getElem_cons_succ, List.getElem_cons_zero, List.setIfInBounds_toArray, List.set_cons_zero, List.set_cons_succ]
      first | (refine WkT.skip (m := 5) (k := 20) rfl (by rfl) ?_) | (refine WkT.pure (m := 5) (k := 20) (v := _) rfl (by rfl) (fun wv => by go_simp; try with_reducible rfl) ?_) | (refine WkT.step (m := 5) (k := 20) (v := _) rfl (by rfl) (by kernel_rfl) (fun wv hS => by obtain ⟨s0, s1, s2, s3, s4, s5⟩ := hS; go_simp; try with_reducible rfl) ?_)
      try simp only [Act.put, List.getElem_toArray, List.getElem_cons_succ, List.getElem_cons_zero, List.setIfInBounds_toArray, List.set_cons_zero, List.set_cons_succ]
      first | (refine WkT.skip (m := 4) (k := 21) rfl (by rfl) ?_) | (refine WkT.pure (m := 4) (k := 21) (v := _) rfl (by rfl) (fun wv => by go_simp; try with_reducible rfl) ?_) | (refine WkT.step (m := 4) (k := 21) (v := _) rfl (by rfl) (by kernel_rfl) (fun wv hS => by obtain ⟨s0, s1, s2, s3, s4, s5⟩ := hS; go_simp; try with_reducible rfl) ?_)
      try simp only [Act.put, List.getElem_toArray, List.getElem_cons_succ, List.getElem_cons_zero, List.setIfInBounds_toArray, List.set_cons_zero, List.set_cons_succ]
      first | (refine WkT.skip (m := 3) (k := 22) rfl (by rfl) ?_) | (refine WkT.pure (m := 3) (k := 22) (v := _) rfl (by rfl) (fun wv => by go_simp; try with_reducible rfl) ?_) | (refine WkT.step (m := 3) (k := 22) (v := _) rfl (by rfl) (by kernel_rfl) (fun wv hS => by obtain ⟨s0, s1, s2, s3, s4, s5⟩ := hS; go_simp; try with_reducible rfl) ?_)
      try simp only [Act.put, List.getElem_toArray, List.getElem_cons_succ, List.getElem_cons_zero, List.setIfInBounds_toArray, List.set_cons_zero, List.set_cons_succ]
      first | (refine WkT.skip (m := 2) (k := 23) rfl (by rfl) ?_) | (refine WkT.pure (m := 2) (k := 23) (v := _) rfl (by rfl) (fun wv => by go_simp; try with_reducible rfl) ?_) | (refine WkT.step (m := 2) (k := 23) (v := _) rfl (by rfl) (by kernel_rfl) (fun wv hS => by obtain ⟨s0, s1, s2, s3, s4, s5⟩ := hS; go_simp; try with_reducible rfl) ?_)
      try simp only [Act.put, List.getElem_toArray, List.getElem_cons_succ, List.getElem_cons_zero, List.setIfInBounds_toArray, List.set_cons_zero, List.set_cons_succ]
      first | (refine WkT.skip (m := 1) (k := 24) rfl (by rfl) ?_) | (refine WkT.pure (m := 1) (k := 24) (v := _) rfl (by rfl) (fun wv => by go_simp; try with_reducible rfl) ?_) | (refine WkT.step (m := 1) (k := 24) (v := _) rfl (by rfl) (by kernel_rfl) (fun wv hS => by obtain ⟨s0, s1, s2, s3, s4, s5⟩ := hS; go_simp; try with_reducible rfl) ?_)
      try simp only [Act.put, List.getElem_toArray, List.getElem_cons_succ, List.getElem_cons_zero, List.setIfInBounds_toArray, List.set_cons_zero, List.set_cons_succ]
      first | (refine WkT.skip (m := 0) (k := 25) rfl (by rfl) ?_) | (refine WkT.pure (m := 0) (k := 25) (v := _) rfl (by rfl) (fun wv => by go_simp; try with_reducible rfl) ?_) | (refine WkT.step (m := 0) (k := 25) (v := _) rfl (by rfl) (by kernel_rfl) (fun wv hS => by obtain ⟨s0, s1, s2, s3, s4, s5⟩ := hS; go_simp; try with_reducible rfl) ?_)
      try simp only [Act.put, List.getElem_toArray, List.getElem_cons_succ, List.getElem_cons_zero, List.setIfInBounds_toArray, List.set_cons_zero, List.set_cons_succ]
      refine WkT.done fun wE hE => ?_
      clear k0 d0 d1 d2 d3
      obtain ⟨mE, k0, d0, d1, d2, d3⟩ := hE
      simp only [List.drop_succ_cons, List.drop_zero]
      have ho' := own_keptR (own_keptR hown mE) (Mk.alloc wE (.cells #[.int .i64 x.kind, .int .i64 x.ts, .int .i64 x.beta, .int .i64 (n3 : Int)] 3))
      have hh1 := lit_has wE 3 [x.kind, x.ts, x.beta, (n3 : Int)] 4 rfl
      have MA := Mk.alloc wE (.cells #[.int .i64 x.kind, .int .i64 x.ts, .int .i64 x.beta, .int .i64 (n3 : Int)] 3)
      have hlo' : w.heap.size + 1 ≤ (wE.alloc (.cells #[.int .i64 x.kind, .int .i64 x.ts, .int .i64 x.beta, .int .i64 (n3 : Int)] 3)).heap.size := by have := mE.size; rw [World.size_alloc]; omega
      go_wp2_with (at_builtin; refine wpList_app rfl (.tmp 15) (.tmp 41) 49 rfl _ 3 i0 Try.underlying49 hi hz0 hz1 hby _ L L.length rfl ho' _ 4 4 [x.kind, x.ts, x.beta, (n3 : Int)] rfl (fun h => by cases h) hh1 (by omega) hlo' ?_; intro v3 w3 ho3 hg3 _)
      have M3 := (hM.trans (mE.trans MA)).appR hg3 (fun g hg => by have := (ho'.lt g hg).1; rw [hs1]; omega)
      clear hown ho' hh1 k0 d0 d1 d2 d3
      go_wp2_with fail
      simp only [noPan]
      go_wp2_with fail
      go_loopw [3, 5] (fun v i wi => ∃ j : Nat, j ≤ n3 ∧ i = .int .i64 j ∧ wi.ownsRow (w.heap.size + 1) 3 1 v (L.length + 4 + 5 * j) ((L ++ [x.kind, x.ts, x.beta, (n3 : Int)] ++ hopsN x.hops j).map (.int .i64)) ∧ Mk0 (w.alloc (Obj.cells #[Value.slice (some ⟨b, off, none⟩) n c] 67)) wi) (fun _ i _ => n3 - (intOf i).toNat)
      case atStart => exact ⟨0, Nat.zero_le _, rfl, by simpa [hopsN] using ho3, M3⟩
      case round =>
        clear ho3 M3
        obtain ⟨j, hj, rfl, hown, hMi⟩ := hrel
        have hMi' := M0.trans hMi
        have hlow2 := hMi.size
        rw [hs1] at hlow2
        have k0 := hMi.cellAt K0.out
        have d3 := hMi'.cellAt D3.out
        by_cases hjt : j < n3
        · obtain ⟨b2, off2, q, rfl, hb2, hq, e0, e1, e2, e3, e4⟩ := HasHop.at _ _ _ _ _ _ (HR3.out.mk hMi' hB (.inr (Nat.le_refl _))) hjt
          have hbr2 := World.block_lt_of_cell? _ _ e0
          simp only at hbr2
          have j1 : (0 : Int) ≤ (j : Int) := by omega
          have j2 : (j : Int) < (n3 : Int) := by omega
          have HQ := Lib.hid (show L ++ [x.kind, x.ts, x.beta, (n3 : Int)] ++ hopsN x.hops (j + 1) = L ++ [x.kind, x.ts, x.beta, (n3 : Int)] ++ hopsN x.hops j ++ [q.nd, q.ing, q.eg, q.exp, q.mac] by rw [hopsN, ← hq.out, List.append_assoc (L ++ [x.kind, x.ts, x.beta, (n3 : Int)])]; rfl)
          obtain ⟨L2, hL2⟩ : ∃ L2, Hid (L2 = L ++ [x.kind, x.ts, x.beta, (n3 : Int)] ++ hopsN x.hops j) := ⟨_, Lib.hid rfl⟩
          rw [← hL2.out] at hown HQ
          have MX2 := (Mk.alloc wr (Obj.cells #[Value.int .i64 q.nd, Value.int .i64 q.ing, Value.int .i64 q.eg, Value.int .i64 q.exp, Value.int .i64 q.mac] 145)).new (.cells #[.int .i64 q.nd, .int .i64 q.ing, .int .i64 q.eg, .int .i64 q.exp, .int .i64 q.mac] 3)
          have hn1 := lit_has (wr.alloc (Obj.cells #[Value.int .i64 q.nd, Value.int .i64 q.ing, Value.int .i64 q.eg, Value.int .i64 q.exp, Value.int .i64 q.mac] 145)) 3 [q.nd, q.ing, q.eg, q.exp, q.mac] 5 rfl
          rw [World.size_alloc wr] at hn1
          have ho' := own_keptR hown MX2
          have hlo' := (hMi.trans MX2).size
          rw [hs1] at hlo'
          go_wp2_with (at_builtin; refine wpList_app rfl (.tmp 63) (.tmp 74) 49 rfl _ 3 i0 Try.underlying49 hi hz0 hz1 hby _ L2 (L.length + 4 + 5 * j) rfl ho' _ 5 5 [q.nd, q.ing, q.eg, q.exp, q.mac] rfl (fun h => by cases h) hn1 (by omega) hlo' ?_; intro v5 w5 ho5 hg5 _)
          have M5 := (hMi.trans MX2).appR hg5 (fun g hg => by have := (ho'.lt g hg).1; rw [hs1]; omega)
          go_wp2_with fail
          go_roundw
          case rel => exact ⟨j + 1, by omega, by go_num, by rw [HQ.out]; exact ho5, M5⟩
          case measure => simp [intOf]; omega
        · obtain rfl : j = n3 := by omega
          have HLn := Lib.hid (show (piN ps (k + 1)).length = L.length + 4 + 5 * j by rw [HP.out]; simp [hopsN_len]; omega)
          go_wp2_with fail
          go_roundw
          case rel => exact ⟨k + 1, by omega, by go_num, by rw [HLn.out, HP.out]; exact hown, hMi⟩
          case measure => simp [intOf]; omega
    · obtain rfl : k = n := by omega
      obtain ⟨A9, C9, rfl, hA9, hN9⟩ := ownsRow_sliceR2 hown
      have HO := Lib.hid (ownsRow_own hown)
      clear hown hN9
      go_wp2_with fail
      go_ret
      exact ⟨A9, _, C9, rfl, hA9, HO.out.low (Nat.le_succ _), hM'.below0⟩

end Go.Proofs.Ytpfjjfbheliinaa
