
/- ReverseSteps of both sides. -/
import Derived.Test.YtdbaecgbhadkbaaTurnStep
import Derived.Test.YtdbaecgbhadkbaaWt
namespace Go.Proofs.Ytdbaecgbhadkbaa
open Go.ChangeShapes Go.WideShapes Go.ChangeAt Go.RowKit
set_option linter.unusedVariables false
def turnS (x : TStep) : TStep := ⟨x.nd, x.eg, x.ing⟩
theorem oneStep1 : ∀ (x : TStep) (j : Nat), (TStep.cell x j).oneCell' = true := fun x j => by unfold TStep.cell; split <;> rfl
set_option maxRecDepth 100000 in
set_option maxHeartbeats 4000000 in
theorem implTurnS (x : TStep) (w : World) : Calls Try.prog 75 #[.agg #[.int .i64 x.nd, .int .i64 x.ing, .int .i64 x.eg]] w fun e w' => e = .returned (.agg #[.int .i64 (turnS x).nd, .int .i64 (turnS x).ing, .int .i64 (turnS x).eg]) ∧ Mk0 w w' := by
  go_enter Try.func75, Try.ntmps75
  go_wp2
  refine bodyPost_ret (v := .agg #[.int .i64 x.nd, .int .i64 x.eg, .int .i64 x.ing]) (by simp [results, Try.results75, go_sem]) rfl ⟨rfl, Mk.of_below ?_⟩
  go_grown

set_option maxRecDepth 100000 in
set_option maxHeartbeats 4000000 in
theorem implRevSteps (a : Option Addr) (n c B : Nat) (zs : List TStep) (w : World) (h : HasStep w B a n zs) (hB : B ≤ w.heap.size) (hn : n ≤ 1048576) :
    Calls Try.prog 18 #[.slice a n c] w (OutRows 3 TStep.cell w (turnL turnS zs n)) := by
  go_enter Try.func18, Try.ntmps18
  go_wp2_with fail
  refine (turnedStep turnS 75 a n c B zs _ h hB hn (fun _ _ => rfl) (fun x w1 => implTurnS x w1)).mono ?_
  rintro e w2 ⟨A, N, cc, rfl, hcc, ho, m2⟩
  go_wp2_with fail
  go_ret
  exact ⟨A, N, cc, rfl, hcc, ho, m2⟩

set_option maxRecDepth 100000 in
set_option maxHeartbeats 4000000 in
theorem specRevSteps (a : Option Addr) (n c B : Nat) (zs : List TStep) (w : World) (h : HasStep w B a n zs) (hB : B ≤ w.heap.size) (hn : n ≤ 1048576) :
    Calls Try.prog 16 #[.slice a n c] w (OutRows 3 TStep.cell w (turnL turnS zs n)) := by
  obtain ⟨i0, hi0, hz0, hz1, hz2⟩ := info_parts infoRStep
  go_enter Try.func16, Try.ntmps16
  go_wp2_with fail
  have hl0 := own_emptyR w 100 3
  have ML := Mk.alloc w (.cells #[] 100)
  go_loopw [3, 4] (fun v i wr => ∃ k : Nat, k ≤ n ∧ i = .int .i64 ((n : Int) - 1 - (k : Int)) ∧ wr.ownsRow w.heap.size 100 3 v k (rowC 3 TStep.cell ((turnL turnS zs n).take k)) ∧ Mk0 w wr) (fun _ i _ => (intOf i + 1).toNat)
  case atStart => exact ⟨0, Nat.zero_le _, by simp, hl0, ML⟩
  case round =>
    clear hl0 ML
    obtain ⟨k, hk, rfl, hown, hM⟩ := hrel
    by_cases hlt : k < n
    · obtain ⟨m, hm⟩ : ∃ m, Hid (n = m + k + 1) := ⟨n - 1 - k, by show n = n - 1 - k + k + 1; omega⟩
      have hmn : m < n := by have := hm.out; omega
      rw [show (n : Int) - 1 - (k : Int) = (m : Int) by have := hm.out; omega]
      obtain ⟨b, off, x, rfl, hb, hx, c0, c1, c2⟩ := HasStep.at _ _ _ _ _ _ (h.mk hM hB (.inr (Nat.le_refl _))) hmn
      have hbr := World.block_lt_of_cell? _ _ c0
      simp only at hbr
      have HT := Lib.hid (show (turnL turnS zs n).take (k + 1) = (turnL turnS zs n).take k ++ [turnS x] by rw [turnL_take _ _ _ _ hlt, hx.out, show n - 1 - k = m by have := hm.out; omega])
      have i1 : (0 : Int) ≤ (m : Int) := by omega
      have i2 : (m : Int) < (n : Int) := by omega
      go_wp2_with fail
      refine wp_region_wkt (fun w' => Mk0 wr w' ∧ w'.cell? ⟨b, off + m * 3, none⟩ = some (.int .i64 x.nd) ∧ w'.cell? ⟨b, off + m * 3 + 1, none⟩ = some (.int .i64 x.ing) ∧ w'.cell? ⟨b, off + m * 3 + 2, none⟩ = some (.int .i64 x.eg)) 17 (by kernel_rfl) (by kernel_rfl) (by kernel_rfl) (by decide) (⟨Mk.drew1 _, c0, c1, c2⟩) ?_
      change WkT _ _ _ _ _ 17 0 _
      first | (refine WkT.skip (m := 16) (k := 0) rfl (by rfl) ?_) | (refine WkT.pure (m := 16) (k := 0) (v := _) rfl (by rfl) (fun wv => by go_simp; try with_reducible rfl) ?_) | (refine WkT.step (m := 16) (k := 0) (v := _) rfl (by rfl) (by kernel_rfl) (fun wv hS => by obtain ⟨s0, s1, s2, s3⟩ := hS; go_simp; try with_reducible rfl) ?_)
      try simp only [Act.put, List.getElem_toArray, List.getElem_cons_zero, List.setIfInBounds_toArray, List.set_cons_zero, List.set_cons_succ]
      first | (refine WkT.skip (m := 15) (k := 1) rfl (by rfl) ?_) | (refine WkT.pure (m := 15) (k := 1) (v := _) rfl (by rfl) (fun wv => by go_simp; try with_reducible rfl) ?_) | (refine WkT.step (m := 15) (k := 1) (v := _) rfl (by rfl) (by kernel_rfl) (fun wv hS => by obtain ⟨s0, s1, s2, s3⟩ := hS; go_simp; try with_reducible rfl) ?_)
      try simp only [Act.put, List.getElem_toArray, List.getElem_cons_succ, List.getElem_cons_zero, List.setIfInBounds_toArray, List.set_cons_zero, List.set_cons_succ]
      first | (refine WkT.skip (m := 14) (k := 2) rfl (by rfl) ?_) | (refine WkT.pure (m := 14) (k := 2) (v := _) rfl (by rfl) (fun wv => by go_simp; try with_reducible rfl) ?_) | (refine WkT.step (m := 14) (k := 2) (v := _) rfl (by rfl) (by kernel_rfl) (fun wv hS => by obtain ⟨s0, s1, s2, s3⟩ := hS; go_simp; try with_reducible rfl) ?_)
      try simp only [Act.put, List.getElem_toArray, List.getElem_cons_succ, List.getElem_cons_zero, List.setIfInBounds_toArray, List.set_cons_zero, List.set_cons_succ]
      first | (refine WkT.skip (m := 13) (k := 3) rfl (by rfl) ?_) | (refine WkT.pure (m := 13) (k := 3) (v := _) rfl (by rfl) (fun wv => by go_simp; try with_reducible rfl) ?_) | (refine WkT.step (m := 13) (k := 3) (v := _) rfl (by rfl) (by kernel_rfl) (fun wv hS => by obtain ⟨s0, s1, s2, s3⟩ := hS; go_simp; try with_reducible rfl) ?_)
      try simp only [Act.put, List.getElem_toArray, List.getElem_cons_succ, List.getElem_cons_zero, List.setIfInBounds_toArray, List.set_cons_zero, List.set_cons_succ]
      first | (refine WkT.skip (m := 12) (k := 4) rfl (by rfl) ?_) | (refine WkT.pure (m := 12) (k := 4) (v := _) rfl (by rfl) (fun wv => by go_simp; try with_reducible rfl) ?_) | (refine WkT.step (m := 12) (k := 4) (v := _) rfl (by rfl) (by kernel_rfl) (fun wv hS => by obtain ⟨s0, s1, s2, s3⟩ := hS; go_simp; try with_reducible rfl) ?_)
      try simp only [Act.put, List.getElem_toArray, List.getElem_cons_succ, List.getElem_cons_zero, List.setIfInBounds_toArray, List.set_cons_zero, List.set_cons_succ]
      first | (refine WkT.skip (m := 11) (k := 5) rfl (by rfl) ?_) | (refine WkT.pure (m := 11) (k := 5) (v := _) rfl (by rfl) (fun wv => by go_simp; try with_reducible rfl) ?_) | (refine WkT.step (m := 11) (k := 5) (v := _) rfl (by rfl) (by kernel_rfl) (fun wv hS => by obtain ⟨s0, s1, s2, s3⟩ := hS; go_simp; try with_reducible rfl) ?_)
      try simp only [Act.put, List.getElem_toArray, List.getElem_cons_succ, List.getElem_cons_zero, List.setIfInBounds_toArray, List.set_cons_zero, List.set_cons_succ]
      first | (refine WkT.skip (m := 10) (k := 6) rfl (by rfl) ?_) | (refine WkT.pure (m := 10) (k := 6) (v := _) rfl (by rfl) (fun wv => by go_simp; try with_reducible rfl) ?_) | (refine WkT.step (m := 10) (k := 6) (v := _) rfl (by rfl) (by kernel_rfl) (fun wv hS => by obtain ⟨s0, s1, s2, s3⟩ := hS; go_simp; try with_reducible rfl) ?_)
      try simp only [Act.put, List.getElem_toArray, List.getElem_cons_succ, List.getElem_cons_zero, List.setIfInBounds_toArray, List.set_cons_zero, List.set_cons_succ]
      first | (refine WkT.skip (m := 9) (k := 7) rfl (by rfl) ?_) | (refine WkT.pure (m := 9) (k := 7) (v := _) rfl (by rfl) (fun wv => by go_simp; try with_reducible rfl) ?_) | (refine WkT.step (m := 9) (k := 7) (v := _) rfl (by rfl) (by kernel_rfl) (fun wv hS => by obtain ⟨s0, s1, s2, s3⟩ := hS; go_simp; try with_reducible rfl) ?_)
      try simp only [Act.put, List.getElem_toArray, List.getElem_cons_succ, List.getElem_cons_zero, List.setIfInBounds_toArray, List.set_cons_zero, List.set_cons_succ]
      first | (refine WkT.skip (m := 8) (k := 8) rfl (by rfl) ?_) | (refine WkT.pure (m := 8) (k := 8) (v := _) rfl (by rfl) (fun wv => by go_simp; try with_reducible rfl) ?_) | (refine WkT.step (m := 8) (k := 8) (v := _) rfl (by rfl) (by kernel_rfl) (fun wv hS => by obtain ⟨s0, s1, s2, s3⟩ := hS; go_simp; try with_reducible rfl) ?_)
      try simp only [Act.put, List.getElem_toArray, List.getElem_cons_succ, List.getElem_cons_zero, List.setIfInBounds_toArray, List.set_cons_zero, List.set_cons_succ]
      first | (refine WkT.skip (m := 7) (k := 9) rfl (by rfl) ?_) | (refine WkT.pure (m := 7) (k := 9) (v := _) rfl (by rfl) (fun wv => by go_simp; try with_reducible rfl) ?_) | (refine WkT.step (m := 7) (k := 9) (v := _) rfl (by rfl) (by kernel_rfl) (fun wv hS => by obtain ⟨s0, s1, s2, s3⟩ := hS; go_simp; try with_reducible rfl) ?_)
      try simp only [Act.put, List.getElem_toArray, List.getElem_cons_succ, List.getElem_cons_zero, List.setIfInBounds_toArray, List.set_cons_zero, List.set_cons_succ]
      first | (refine WkT.skip (m := 6) (k := 10) rfl (by rfl) ?_) | (refine WkT.pure (m := 6) (k := 10) (v := _) rfl (by rfl) (fun wv => by go_simp; try with_reducible rfl) ?_) | (refine WkT.step (m := 6) (k := 10) (v := _) rfl (by rfl) (by kernel_rfl) (fun wv hS => by obtain ⟨s0, s1, s2, s3⟩ := hS; go_simp; try with_reducible rfl) ?_)
      try simp only [Act.put, List.getElem_toArray, List.getElem_cons_succ, List.getElem_cons_zero, List.setIfInBounds_toArray, List.set_cons_zero, List.set_cons_succ]
      first | (refine WkT.skip (m := 5) (k := 11) rfl (by rfl) ?_) | (refine WkT.pure (m := 5) (k := 11) (v := _) rfl (by rfl) (fun wv => by go_simp; try with_reducible rfl) ?_) | (refine WkT.step (m := 5) (k := 11) (v := _) rfl (by rfl) (by kernel_rfl) (fun wv hS => by obtain ⟨s0, s1, s2, s3⟩ := hS; go_simp; try with_reducible rfl) ?_)
      try simp only [Act.put, List.getElem_toArray, List.getElem_cons_succ, List.getElem_cons_zero, List.setIfInBounds_toArray, List.set_cons_zero, List.set_cons_succ]
      first | (refine WkT.skip (m := 4) (k := 12) rfl (by rfl) ?_) | (refine WkT.pure (m := 4) (k := 12) (v := _) rfl (by rfl) (fun wv => by go_simp; try with_reducible rfl) ?_) | (refine WkT.step (m := 4) (k := 12) (v := _) rfl (by rfl) (by kernel_rfl) (fun wv hS => by obtain ⟨s0, s1, s2, s3⟩ := hS; go_simp; try with_reducible rfl) ?_)
      try simp only [Act.put, List.getElem_toArray, List.getElem_cons_succ, List.getElem_cons_zero, List.setIfInBounds_toArray, List.set_cons_zero, List.set_cons_succ]
      first | (refine WkT.skip (m := 3) (k := 13) rfl (by rfl) ?_) | (refine WkT.pure (m := 3) (k := 13) (v := _) rfl (by rfl) (fun wv => by go_simp; try with_reducible rfl) ?_) | (refine WkT.step (m := 3) (k := 13) (v := _) rfl (by rfl) (by kernel_rfl) (fun wv hS => by obtain ⟨s0, s1, s2, s3⟩ := hS; go_simp; try with_reducible rfl) ?_)
      try simp only [Act.put, List.getElem_toArray, List.getElem_cons_succ, List.getElem_cons_zero, List.setIfInBounds_toArray, List.set_cons_zero, List.set_cons_succ]
      first | (refine WkT.skip (m := 2) (k := 14) rfl (by rfl) ?_) | (refine WkT.pure (m := 2) (k := 14) (v := _) rfl (by rfl) (fun wv => by go_simp; try with_reducible rfl) ?_) | (refine WkT.step (m := 2) (k := 14) (v := _) rfl (by rfl) (by kernel_rfl) (fun wv hS => by obtain ⟨s0, s1, s2, s3⟩ := hS; go_simp; try with_reducible rfl) ?_)
      try simp only [Act.put, List.getElem_toArray, List.getElem_cons_succ, List.getElem_cons_zero, List.setIfInBounds_toArray, List.set_cons_zero, List.set_cons_succ]
      first | (refine WkT.skip (m := 1) (k := 15) rfl (by rfl) ?_) | (refine WkT.pure (m := 1) (k := 15) (v := _) rfl (by rfl) (fun wv => by go_simp; try with_reducible rfl) ?_) | (refine WkT.step (m := 1) (k := 15) (v := _) rfl (by rfl) (by kernel_rfl) (fun wv hS => by obtain ⟨s0, s1, s2, s3⟩ := hS; go_simp; try with_reducible rfl) ?_)
      try simp only [Act.put, List.getElem_toArray, List.getElem_cons_succ, List.getElem_cons_zero, List.setIfInBounds_toArray, List.set_cons_zero, List.set_cons_succ]
      first | (refine WkT.skip (m := 0) (k := 16) rfl (by rfl) ?_) | (refine WkT.pure (m := 0) (k := 16) (v := _) rfl (by rfl) (fun wv => by go_simp; try with_reducible rfl) ?_) | (refine WkT.step (m := 0) (k := 16) (v := _) rfl (by rfl) (by kernel_rfl) (fun wv hS => by obtain ⟨s0, s1, s2, s3⟩ := hS; go_simp; try with_reducible rfl) ?_)
      try simp only [Act.put, List.getElem_toArray, List.getElem_cons_succ, List.getElem_cons_zero, List.setIfInBounds_toArray, List.set_cons_zero, List.set_cons_succ]
      refine WkT.done fun wE hE => ?_
      obtain ⟨mE, c0, c1, c2⟩ := hE
      simp only [List.drop_succ_cons, List.drop_zero]
      replace hown := own_keptR hown mE
      replace hM := hM.trans mE
      have MX := Mk.alloc wE (Obj.cells #[Value.int .i64 x.nd, Value.int .i64 x.eg, Value.int .i64 x.ing] 100)
      have ho3 := own_keptR hown MX
      have hh3 := hasR_new (cell := TStep.cell) (nc := 3) (by decide) wE 100 (turnS x) #[Value.int .i64 x.nd, Value.int .i64 x.eg, Value.int .i64 x.ing] (fun j hj => by match j, hj with | 0, _ => rfl | 1, _ => rfl | 2, _ => rfl)
      have hlo := (hM.trans MX).size
      go_wp2_with (at_builtin; refine wpList_appR (by decide) oneStep1 rfl (.tmp 13) (.tmp 30) 24 rfl w.heap.size 100 i0 _ Try.underlying24 hi0 hz0 rfl hz1 (by rw [hz2]; decide) _ ((turnL turnS zs n).take k) k rfl ho3 _ 1 1 [turnS x] rfl (fun h => by cases h) hh3 (by omega) hlo ?_; intro v2 w2 hown2 hgr2)
      have M2 := (hM.trans MX).appR hgr2 (fun g hg => (ho3.lt g hg).1)
      go_wp2_with fail
      simp only [noPan]
      go_wp2_with fail
      go_roundw
      case rel => exact ⟨k + 1, by omega, congrArg (Value.int .i64) (by have := hm.out; omega), by rw [HT.out]; exact hown2, M2⟩
      case measure => simp [intOf]
    · obtain rfl : k = n := by omega
      rw [show (k : Int) - 1 - (k : Int) = -1 by omega]
      go_wp2_with fail
      go_ret
      have ht : (turnL turnS zs k).take k = turnL turnS zs k := List.take_of_length_le (by rw [turnL_len]; exact Nat.le_refl _)
      rw [ht] at hown
      exact OutRows.of (by decide) hown hM

end Go.Proofs.Ytdbaecgbhadkbaa
