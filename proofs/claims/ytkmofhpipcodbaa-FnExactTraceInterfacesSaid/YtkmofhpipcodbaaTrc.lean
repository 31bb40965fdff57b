
/- The interfaces of a trace, of both sides. -/
import Derived.Test.YtkmofhpipcodbaaUsed
namespace Go.Proofs.Ytkmofhpipcodbaa
open Go.ChangeShapes Go.WideShapes Go.ChangeAt Go.RowKit
set_option linter.unusedVariables false
set_option maxRecDepth 100000 in
set_option maxHeartbeats 4000000 in
theorem implArr (y : TStep) (w : World) : Calls Try.prog 68 #[.agg #[.int .i64 y.nd, .int .i64 y.ing, .int .i64 y.eg]] w fun e w' => e = .returned (.agg #[.int .i64 y.nd, .int .i64 y.ing, .int .i64 y.eg]) ∧ Mk0 w w' := by
  have M := (Mk.alloc w (Obj.cells #[Value.int .i64 y.nd, Value.int .i64 y.ing, Value.int .i64 y.eg] 114)).new (Obj.cells #[Value.int .i64 y.nd, Value.int .i64 y.ing, Value.int .i64 y.eg] 118)
  go_enter Try.func68, Try.ntmps68
  go_wp2_with fail
  exact bodyPost_ret (v := .agg #[.int .i64 y.nd, .int .i64 y.ing, .int .i64 y.eg]) (by simp [results, Try.results68, go_sem]) rfl ⟨rfl, M⟩

set_option maxRecDepth 100000 in
set_option maxHeartbeats 4000000 in
theorem specTrc (x0 x2 x3 x4 x6 x7 x8 x9 x10 : Int) (a a5 a11 : Option Addr) (n c n5 c5 n11 c11 B : Nat) (zs : List TStep) (w : World) (h : HasStep w B a n zs) (hB : B ≤ w.heap.size) (hn : n ≤ 1048576) :
    Calls Try.prog 22 #[.agg #[.int .i64 x0, .slice a n c, .int .i64 x2, .int .i64 x3, .int .i64 x4, .slice a5 n5 c5, .int .i64 x6, .int .i64 x7, .int .i64 x8, .int .i64 x9, .int .i64 x10, .slice a11 n11 c11]] w (OutOwnI 3 w (usedUp zs n)) := by
  obtain ⟨i0, hi, hz0, hz1, hz2⟩ := info_parts infoI64
  have hby : i0.bytes ≤ 8 := by rw [hz2]; decide
  have M0 := Mk.alloc w (Obj.cells #[Value.int .i64 x0, Value.slice a n c, Value.int .i64 x2, Value.int .i64 x3, Value.int .i64 x4, Value.slice a5 n5 c5, Value.int .i64 x6, Value.int .i64 x7, Value.int .i64 x8, Value.int .i64 x9, Value.int .i64 x10, Value.slice a11 n11 c11] 61)
  have hsz := Lib.hid (World.size_alloc w (Obj.cells #[Value.int .i64 x0, Value.slice a n c, Value.int .i64 x2, Value.int .i64 x3, Value.int .i64 x4, Value.slice a5 n5 c5, Value.int .i64 x6, Value.int .i64 x7, Value.int .i64 x8, Value.int .i64 x9, Value.int .i64 x10, Value.slice a11 n11 c11] 61))
  have u1 : (w.alloc (Obj.cells #[Value.int .i64 x0, Value.slice a n c, Value.int .i64 x2, Value.int .i64 x3, Value.int .i64 x4, Value.slice a5 n5 c5, Value.int .i64 x6, Value.int .i64 x7, Value.int .i64 x8, Value.int .i64 x9, Value.int .i64 x10, Value.slice a11 n11 c11] 61)).cell? ⟨w.heap.size, 1, none⟩ = some (.slice a n c) := by simp [go_sem]
  generalize hW1 : w.alloc (Obj.cells #[Value.int .i64 x0, Value.slice a n c, Value.int .i64 x2, Value.int .i64 x3, Value.int .i64 x4, Value.slice a5 n5 c5, Value.int .i64 x6, Value.int .i64 x7, Value.int .i64 x8, Value.int .i64 x9, Value.int .i64 x10, Value.slice a11 n11 c11] 61) = W1 at *
  have u1' := (Mk.alloc W1 (.cells #[] 3)).cellAt u1
  go_enter Try.func22, Try.ntmps22
  go_wp2_with fail
  clear hW1 u1'
  have hl0 := own_empI W1 3
  have ML := Mk.alloc W1 (.cells #[] 3)
  go_loopw [3, 4] (fun v i wr => ∃ k : Nat, k ≤ n ∧ i = .int .i64 k ∧ wr.ownsRow W1.heap.size 3 1 v (usedUp zs k).length ((usedUp zs k).map (.int .i64)) ∧ Mk0 W1 wr) (fun _ i _ => n - (intOf i).toNat)
  case atStart => exact ⟨0, Nat.zero_le _, rfl, hl0, ML⟩
  case round =>
    clear hl0 ML
    obtain ⟨k, hk, rfl, hown, hM⟩ := hrel
    have hul := usedUp_len zs k
    have U1 := Lib.hid u1
    replace u1 := hM.cellAt u1
    by_cases hlt : k < n
    · obtain ⟨b, off, y, rfl, hb, hx, c0, c1, c2⟩ := HasStep.at _ _ _ _ _ _ (h.mk (M0.trans hM) hB (.inr (Nat.le_refl _))) hlt
      have hbr := World.block_lt_of_cell? _ _ c0
      simp only at hbr
      have i1 : (0 : Int) ≤ (k : Int) := by omega
      have i2 : (k : Int) < (n : Int) := by omega
      have hlow := hM.size
      have HE := Lib.hid (show usedUp zs (k + 1) = usedUp zs k ++ (endA y ++ endB y) by rw [usedUp, ← hx.out])
      obtain ⟨L, hLq⟩ : ∃ L, Hid (L = usedUp zs k) := ⟨_, rfl⟩
      rw [← hLq.out] at hown hul HE
      cases e1 : (y.ing == 0)
      · have e1' : (y.ing != 0) = true := by simp only [bne, e1]; rfl
        have HA := Lib.hid (show endA y = [ifN y.nd y.ing] from if_neg (by simpa using e1))
        clear e1
        go_wp2_with fail
        refine wp_region_wkt (fun w' => Mk0 wr w' ∧ w'.cell? ⟨w.heap.size, 1, none⟩ = some (.slice (some ⟨b, off, none⟩) n c) ∧ w'.cell? ⟨b, off + k * 3, none⟩ = some (.int .i64 y.nd) ∧ w'.cell? ⟨b, off + k * 3 + 1, none⟩ = some (.int .i64 y.ing) ∧ w'.cell? ⟨b, off + k * 3 + 2, none⟩ = some (.int .i64 y.eg)) 15 (by kernel_rfl) (by kernel_rfl) (by kernel_rfl) (by decide) (⟨Mk.drew1 _, u1, c0, c1, c2⟩) ?_
        change WkT _ _ _ _ _ 15 0 _
        first | (refine WkT.skip (m := 14) (k := 0) rfl (by rfl) ?_) | (refine WkT.pure (m := 14) (k := 0) (v := _) rfl (by rfl) (fun wv => by go_simp; try with_reducible rfl) ?_) | (refine WkT.step (m := 14) (k := 0) (v := _) rfl (by rfl) (by kernel_rfl) (fun wv hS => by obtain ⟨s0, s1, s2, s3, s4⟩ := hS; go_simp; try with_reducible rfl) ?_)
        try simp only [Act.put, List.getElem_toArray, List.getElem_cons_zero, List.setIfInBounds_toArray, List.set_cons_zero, List.set_cons_succ]
        first | (refine WkT.skip (m := 13) (k := 1) rfl (by rfl) ?_) | (refine WkT.pure (m := 13) (k := 1) (v := _) rfl (by rfl) (fun wv => by go_simp; try with_reducible rfl) ?_) | (refine WkT.step (m := 13) (k := 1) (v := _) rfl (by rfl) (by kernel_rfl) (fun wv hS => by obtain ⟨s0, s1, s2, s3, s4⟩ := hS; go_simp; try with_reducible rfl) ?_)
        try simp only [Act.put, List.getElem_toArray, List.getElem_cons_succ, List.getElem_cons_zero, List.setIfInBounds_toArray, List.set_cons_zero, List.set_cons_succ]
        first | (refine WkT.skip (m := 12) (k := 2) rfl (by rfl) ?_) | (refine WkT.pure (m := 12) (k := 2) (v := _) rfl (by rfl) (fun wv => by go_simp; try with_reducible rfl) ?_) | (refine WkT.step (m := 12) (k := 2) (v := _) rfl (by rfl) (by kernel_rfl) (fun wv hS => by obtain ⟨s0, s1, s2, s3, s4⟩ := hS; go_simp; try with_reducible rfl) ?_)
        try simp only [Act.put, List.getElem_toArray, List.getElem_cons_succ, List.getElem_cons_zero, List.setIfInBounds_toArray, List.set_cons_zero, List.set_cons_succ]
        first | (refine WkT.skip (m := 11) (k := 3) rfl (by rfl) ?_) | (refine WkT.pure (m := 11) (k := 3) (v := _) rfl (by rfl) (fun wv => by go_simp; try with_reducible rfl) ?_) | (refine WkT.step (m := 11) (k := 3) (v := _) rfl (by rfl) (by kernel_rfl) (fun wv hS => by obtain ⟨s0, s1, s2, s3, s4⟩ := hS; go_simp; try with_reducible rfl) ?_)
        try simp only [Act.put, List.getElem_toArray, List.getElem_cons_succ, List.getElem_cons_zero, List.setIfInBounds_toArray, List.set_cons_zero, List.set_cons_succ]
        first | (refine WkT.skip (m := 10) (k := 4) rfl (by rfl) ?_) | (refine WkT.pure (m := 10) (k := 4) (v := _) rfl (by rfl) (fun wv => by go_simp; try with_reducible rfl) ?_) | (refine WkT.step (m := 10) (k := 4) (v := _) rfl (by rfl) (by kernel_rfl) (fun wv hS => by obtain ⟨s0, s1, s2, s3, s4⟩ := hS; go_simp; try with_reducible rfl) ?_)
        try simp only [Act.put, List.getElem_toArray, List.getElem_cons_succ, List.getElem_cons_zero, List.setIfInBounds_toArray, List.set_cons_zero, List.set_cons_succ]
        first | (refine WkT.skip (m := 9) (k := 5) rfl (by rfl) ?_) | (refine WkT.pure (m := 9) (k := 5) (v := _) rfl (by rfl) (fun wv => by go_simp; try with_reducible rfl) ?_) | (refine WkT.step (m := 9) (k := 5) (v := _) rfl (by rfl) (by kernel_rfl) (fun wv hS => by obtain ⟨s0, s1, s2, s3, s4⟩ := hS; go_simp; try with_reducible rfl) ?_)
        try simp only [Act.put, List.getElem_toArray, List.getElem_cons_succ, List.getElem_cons_zero, List.setIfInBounds_toArray, List.set_cons_zero, List.set_cons_succ]
        first | (refine WkT.skip (m := 8) (k := 6) rfl (by rfl) ?_) | (refine WkT.pure (m := 8) (k := 6) (v := _) rfl (by rfl) (fun wv => by go_simp; try with_reducible rfl) ?_) | (refine WkT.step (m := 8) (k := 6) (v := _) rfl (by rfl) (by kernel_rfl) (fun wv hS => by obtain ⟨s0, s1, s2, s3, s4⟩ := hS; go_simp; try with_reducible rfl) ?_)
        try simp only [Act.put, List.getElem_toArray, List.getElem_cons_succ, List.getElem_cons_zero, List.setIfInBounds_toArray, List.set_cons_zero, List.set_cons_succ]
        first | (refine WkT.skip (m := 7) (k := 7) rfl (by rfl) ?_) | (refine WkT.pure (m := 7) (k := 7) (v := _) rfl (by rfl) (fun wv => by go_simp; try with_reducible rfl) ?_) | (refine WkT.step (m := 7) (k := 7) (v := _) rfl (by rfl) (by kernel_rfl) (fun wv hS => by obtain ⟨s0, s1, s2, s3, s4⟩ := hS; go_simp; try with_reducible rfl) ?_)
        try simp only [Act.put, List.getElem_toArray, List.getElem_cons_succ, List.getElem_cons_zero, List.setIfInBounds_toArray, List.set_cons_zero, List.set_cons_succ]
        first | (refine WkT.skip (m := 6) (k := 8) rfl (by rfl) ?_) | (refine WkT.pure (m := 6) (k := 8) (v := _) rfl (by rfl) (fun wv => by go_simp; try with_reducible rfl) ?_) | (refine WkT.step (m := 6) (k := 8) (v := _) rfl (by rfl) (by kernel_rfl) (fun wv hS => by obtain ⟨s0, s1, s2, s3, s4⟩ := hS; go_simp; try with_reducible rfl) ?_)
        try simp only [Act.put, List.getElem_toArray, List.getElem_cons_succ, List.getElem_cons_zero, List.setIfInBounds_toArray, List.set_cons_zero, List.set_cons_succ]
        first | (refine WkT.skip (m := 5) (k := 9) rfl (by rfl) ?_) | (refine WkT.pure (m := 5) (k := 9) (v := _) rfl (by rfl) (fun wv => by go_simp; try with_reducible rfl) ?_) | (refine WkT.step (m := 5) (k := 9) (v := _) rfl (by rfl) (by kernel_rfl) (fun wv hS => by obtain ⟨s0, s1, s2, s3, s4⟩ := hS; go_simp; try with_reducible rfl) ?_)
        try simp only [Act.put, List.getElem_toArray, List.getElem_cons_succ, List.getElem_cons_zero, List.setIfInBounds_toArray, List.set_cons_zero, List.set_cons_succ]
        first | (refine WkT.skip (m := 4) (k := 10) rfl (by rfl) ?_) | (refine WkT.pure (m := 4) (k := 10) (v := _) rfl (by rfl) (fun wv => by go_simp; try with_reducible rfl) ?_) | (refine WkT.step (m := 4) (k := 10) (v := _) rfl (by rfl) (by kernel_rfl) (fun wv hS => by obtain ⟨s0, s1, s2, s3, s4⟩ := hS; go_simp; try with_reducible rfl) ?_)
        try simp only [Act.put, List.getElem_toArray, List.getElem_cons_succ, List.getElem_cons_zero, List.setIfInBounds_toArray, List.set_cons_zero, List.set_cons_succ]
        first | (refine WkT.skip (m := 3) (k := 11) rfl (by rfl) ?_) | (refine WkT.pure (m := 3) (k := 11) (v := _) rfl (by rfl) (fun wv => by go_simp; try with_reducible rfl) ?_) | (refine WkT.step (m := 3) (k := 11) (v := _) rfl (by rfl) (by kernel_rfl) (fun wv hS => by obtain ⟨s0, s1, s2, s3, s4⟩ := hS; go_simp; try with_reducible rfl) ?_)
        try simp only [Act.put, List.getElem_toArray, List.getElem_cons_succ, List.getElem_cons_zero, List.setIfInBounds_toArray, List.set_cons_zero, List.set_cons_succ]
        first | (refine WkT.skip (m := 2) (k := 12) rfl (by rfl) ?_) | (refine WkT.pure (m := 2) (k := 12) (v := _) rfl (by rfl) (fun wv => by go_simp; try with_reducible rfl) ?_) | (refine WkT.step (m := 2) (k := 12) (v := _) rfl (by rfl) (by kernel_rfl) (fun wv hS => by obtain ⟨s0, s1, s2, s3, s4⟩ := hS; go_simp; try with_reducible rfl) ?_)
        try simp only [Act.put, List.getElem_toArray, List.getElem_cons_succ, List.getElem_cons_zero, List.setIfInBounds_toArray, List.set_cons_zero, List.set_cons_succ]
        first | (refine WkT.skip (m := 1) (k := 13) rfl (by rfl) ?_) | (refine WkT.pure (m := 1) (k := 13) (v := _) rfl (by rfl) (fun wv => by go_simp; try with_reducible rfl) ?_) | (refine WkT.step (m := 1) (k := 13) (v := _) rfl (by rfl) (by kernel_rfl) (fun wv hS => by obtain ⟨s0, s1, s2, s3, s4⟩ := hS; go_simp; try with_reducible rfl) ?_)
        try simp only [Act.put, List.getElem_toArray, List.getElem_cons_succ, List.getElem_cons_zero, List.setIfInBounds_toArray, List.set_cons_zero, List.set_cons_succ]
        first | (refine WkT.skip (m := 0) (k := 14) rfl (by rfl) ?_) | (refine WkT.pure (m := 0) (k := 14) (v := _) rfl (by rfl) (fun wv => by go_simp; try with_reducible rfl) ?_) | (refine WkT.step (m := 0) (k := 14) (v := _) rfl (by rfl) (by kernel_rfl) (fun wv hS => by obtain ⟨s0, s1, s2, s3, s4⟩ := hS; go_simp; try with_reducible rfl) ?_)
        try simp only [Act.put, List.getElem_toArray, List.getElem_cons_succ, List.getElem_cons_zero, List.setIfInBounds_toArray, List.set_cons_zero, List.set_cons_succ]
        refine WkT.done fun wE hE => ?_
        clear u1 c0 c1 c2
        obtain ⟨mE, u1, c0, c1, c2⟩ := hE
        simp only [List.drop_succ_cons, List.drop_zero]
        have MA := Mk.alloc wE (.cells #[.int .i64 (ifN y.nd y.ing)] 3)
        have hn1 := has_new .i64 wE 3 (ifN y.nd y.ing)
        have ho3 := own_keptR (own_keptR hown mE) MA
        have hlo3 := Nat.le_trans (Nat.le_trans hlow mE.size) MA.size
        go_wp2_with (at_builtin; refine wpList_app rfl (.tmp 20) (.tmp 35) 37 rfl W1.heap.size 3 i0 Try.underlying37 hi hz0 hz1 hby _ L (L).length rfl ho3 _ 1 1 [ifN y.nd y.ing] rfl (fun h => by cases h) hn1 (by first | omega | (rw [List.length_append]; simp; omega)) hlo3 ?_; intro v2 w4 ho2 hg2 hvb2)
        have hMn := ((hM.trans mE).trans MA).appR hg2 (fun g hg => (ho3.lt g hg).1)
        have hLn : (L ++ [ifN y.nd y.ing]).length = (L).length + 1 := by simp
        rw [← hLn] at ho2
        have HLn := Lib.hid hLn
        clear hLn ho3 hlo3 hvb2 hg2 hn1 MA mE hown hM c0 c1 c2 u1 hlow hbr
        have hown := ho2
        have hM := hMn
        clear ho2 hMn
        have hlow := hM.size
        have u1 := hM.cellAt U1.out
        obtain ⟨b9, off9, y9, eb9, _, hx9, c0, c1, c2⟩ := HasStep.at _ _ _ _ _ _ (h.mk (M0.trans hM) hB (.inr (Nat.le_refl _))) hlt
        simp only [Option.some.injEq, Addr.mk.injEq, and_true] at eb9
        obtain ⟨rfl, rfl⟩ := eb9
        obtain rfl : y = y9 := hx.out.trans hx9.out.symm
        have hbr := World.block_lt_of_cell? _ _ c0
        simp only at hbr
        go_wp2_with fail
        simp only [noPan]
        cases e2 : (y.eg == 0)
        · have e2' : (y.eg != 0) = true := by simp only [bne, e2]; rfl
          have HBq := Lib.hid (show endB y = [ifN y.nd y.eg] from if_neg (by simpa using e2))
          clear e2
          go_wp2_with fail
          refine wp_region_wkt (fun w' => Mk0 w4 w' ∧ w'.cell? ⟨w.heap.size, 1, none⟩ = some (.slice (some ⟨b, off, none⟩) n c) ∧ w'.cell? ⟨b, off + k * 3, none⟩ = some (.int .i64 y.nd) ∧ w'.cell? ⟨b, off + k * 3 + 1, none⟩ = some (.int .i64 y.ing) ∧ w'.cell? ⟨b, off + k * 3 + 2, none⟩ = some (.int .i64 y.eg)) 15 (by kernel_rfl) (by kernel_rfl) (by kernel_rfl) (by decide) (⟨Mk.drew1 _, u1, c0, c1, c2⟩) ?_
          change WkT _ _ _ _ _ 15 0 _
          first | (refine WkT.skip (m := 14) (k := 0) rfl (by rfl) ?_) | (refine WkT.pure (m := 14) (k := 0) (v := _) rfl (by rfl) (fun wv => by go_simp; try with_reducible rfl) ?_) | (refine WkT.step (m := 14) (k := 0) (v := _) rfl (by rfl) (by kernel_rfl) (fun wv hS => by obtain ⟨s0, s1, s2, s3, s4⟩ := hS; go_simp; try with_reducible rfl) ?_)
          try simp only [Act.put, List.getElem_toArray, List.getElem_cons_zero, List.setIfInBounds_toArray, List.set_cons_zero, List.set_cons_succ]
          first | (refine WkT.skip (m := 13) (k := 1) rfl (by rfl) ?_) | (refine WkT.pure (m := 13) (k := 1) (v := _) rfl (by rfl) (fun wv => by go_simp; try with_reducible rfl) ?_) | (refine WkT.step (m := 13) (k := 1) (v := _) rfl (by rfl) (by kernel_rfl) (fun wv hS => by obtain ⟨s0, s1, s2, s3, s4⟩ := hS; go_simp; try with_reducible rfl) ?_)
          try simp only [Act.put, List.getElem_toArray, List.getElem_cons_succ, List.getElem_cons_zero, List.setIfInBounds_toArray, List.set_cons_zero, List.set_cons_succ]
          first | (refine WkT.skip (m := 12) (k := 2) rfl (by rfl) ?_) | (refine WkT.pure (m := 12) (k := 2) (v := _) rfl (by rfl) (fun wv => by go_simp; try with_reducible rfl) ?_) | (refine WkT.step (m := 12) (k := 2) (v := _) rfl (by rfl) (by kernel_rfl) (fun wv hS => by obtain ⟨s0, s1, s2, s3, s4⟩ := hS; go_simp; try with_reducible rfl) ?_)
          try simp only [Act.put, List.getElem_toArray, List.getElem_cons_succ, List.getElem_cons_zero, List.setIfInBounds_toArray, List.set_cons_zero, List.set_cons_succ]
          first | (refine WkT.skip (m := 11) (k := 3) rfl (by rfl) ?_) | (refine WkT.pure (m := 11) (k := 3) (v := _) rfl (by rfl) (fun wv => by go_simp; try with_reducible rfl) ?_) | (refine WkT.step (m := 11) (k := 3) (v := _) rfl (by rfl) (by kernel_rfl) (fun wv hS => by obtain ⟨s0, s1, s2, s3, s4⟩ := hS; go_simp; try with_reducible rfl) ?_)
          try simp only [Act.put, List.getElem_toArray, List.getElem_cons_succ, List.getElem_cons_zero, List.setIfInBounds_toArray, List.set_cons_zero, List.set_cons_succ]
          first | (refine WkT.skip (m := 10) (k := 4) rfl (by rfl) ?_) | (refine WkT.pure (m := 10) (k := 4) (v := _) rfl (by rfl) (fun wv => by go_simp; try with_reducible rfl) ?_) | (refine WkT.step (m := 10) (k := 4) (v := _) rfl (by rfl) (by kernel_rfl) (fun wv hS => by obtain ⟨s0, s1, s2, s3, s4⟩ := hS; go_simp; try with_reducible rfl) ?_)
          try simp only [Act.put, List.getElem_toArray, List.getElem_cons_succ, List.getElem_cons_zero, List.setIfInBounds_toArray, List.set_cons_zero, List.set_cons_succ]
          first | (refine WkT.skip (m := 9) (k := 5) rfl (by rfl) ?_) | (refine WkT.pure (m := 9) (k := 5) (v := _) rfl (by rfl) (fun wv => by go_simp; try with_reducible rfl) ?_) | (refine WkT.step (m := 9) (k := 5) (v := _) rfl (by rfl) (by kernel_rfl) (fun wv hS => by obtain ⟨s0, s1, s2, s3, s4⟩ := hS; go_simp; try with_reducible rfl) ?_)
          try simp only [Act.put, List.getElem_toArray, List.getElem_cons_succ, List.getElem_cons_zero, List.setIfInBounds_toArray, List.set_cons_zero, List.set_cons_succ]
          first | (refine WkT.skip (m := 8) (k := 6) rfl (by rfl) ?_) | (refine WkT.pure (m := 8) (k := 6) (v := _) rfl (by rfl) (fun wv => by go_simp; try with_reducible rfl) ?_) | (refine WkT.step (m := 8) (k := 6) (v := _) rfl (by rfl) (by kernel_rfl) (fun wv hS => by obtain ⟨s0, s1, s2, s3, s4⟩ := hS; go_simp; try with_reducible rfl) ?_)
          try simp only [Act.put, List.getElem_toArray, List.getElem_cons_succ, List.getElem_cons_zero, List.setIfInBounds_toArray, List.set_cons_zero, List.set_cons_succ]
          first | (refine WkT.skip (m := 7) (k := 7) rfl (by rfl) ?_) | (refine WkT.pure (m := 7) (k := 7) (v := _) rfl (by rfl) (fun wv => by go_simp; try with_reducible rfl) ?_) | (refine WkT.step (m := 7) (k := 7) (v := _) rfl (by rfl) (by kernel_rfl) (fun wv hS => by obtain ⟨s0, s1, s2, s3, s4⟩ := hS; go_simp; try with_reducible rfl) ?_)
          try simp only [Act.put, List.getElem_toArray, List.getElem_cons_succ, List.getElem_cons_zero, List.setIfInBounds_toArray, List.set_cons_zero, List.set_cons_succ]
          first | (refine WkT.skip (m := 6) (k := 8) rfl (by rfl) ?_) | (refine WkT.pure (m := 6) (k := 8) (v := _) rfl (by rfl) (fun wv => by go_simp; try with_reducible rfl) ?_) | (refine WkT.step (m := 6) (k := 8) (v := _) rfl (by rfl) (by kernel_rfl) (fun wv hS => by obtain ⟨s0, s1, s2, s3, s4⟩ := hS; go_simp; try with_reducible rfl) ?_)
          try simp only [Act.put, List.getElem_toArray, List.getElem_cons_succ, List.getElem_cons_zero, List.setIfInBounds_toArray, List.set_cons_zero, List.set_cons_succ]
          first | (refine WkT.skip (m := 5) (k := 9) rfl (by rfl) ?_) | (refine WkT.pure (m := 5) (k := 9) (v := _) rfl (by rfl) (fun wv => by go_simp; try with_reducible rfl) ?_) | (refine WkT.step (m := 5) (k := 9) (v := _) rfl (by rfl) (by kernel_rfl) (fun wv hS => by obtain ⟨s0, s1, s2, s3, s4⟩ := hS; go_simp; try with_reducible rfl) ?_)
          try simp only [Act.put, List.getElem_toArray, List.getElem_cons_succ, List.getElem_cons_zero, List.setIfInBounds_toArray, List.set_cons_zero, List.set_cons_succ]
          first | (refine WkT.skip (m := 4) (k := 10) rfl (by rfl) ?_) | (refine WkT.pure (m := 4) (k := 10) (v := _) rfl (by rfl) (fun wv => by go_simp; try with_reducible rfl) ?_) | (refine WkT.step (m := 4) (k := 10) (v := _) rfl (by rfl) (by kernel_rfl) (fun wv hS => by obtain ⟨s0, s1, s2, s3, s4⟩ := hS; go_simp; try with_reducible rfl) ?_)
          try simp only [Act.put, List.getElem_toArray, List.getElem_cons_succ, List.getElem_cons_zero, List.setIfInBounds_toArray, List.set_cons_zero, List.set_cons_succ]
          first | (refine WkT.skip (m := 3) (k := 11) rfl (by rfl) ?_) | (refine WkT.pure (m := 3) (k := 11) (v := _) rfl (by rfl) (fun wv => by go_simp; try with_reducible rfl) ?_) | (refine WkT.step (m := 3) (k := 11) (v := _) rfl (by rfl) (by kernel_rfl) (fun wv hS => by obtain ⟨s0, s1, s2, s3, s4⟩ := hS; go_simp; try with_reducible rfl) ?_)
          try simp only [Act.put, List.getElem_toArray, List.getElem_cons_succ, List.getElem_cons_zero, List.setIfInBounds_toArray, List.set_cons_zero, List.set_cons_succ]
          first | (refine WkT.skip (m := 2) (k := 12) rfl (by rfl) ?_) | (refine WkT.pure (m := 2) (k := 12) (v := _) rfl (by rfl) (fun wv => by go_simp; try with_reducible rfl) ?_) | (refine WkT.step (m := 2) (k := 12) (v := _) rfl (by rfl) (by kernel_rfl) (fun wv hS => by obtain ⟨s0, s1, s2, s3, s4⟩ := hS; go_simp; try with_reducible rfl) ?_)
          try simp only [Act.put, List.getElem_toArray, List.getElem_cons_succ, List.getElem_cons_zero, List.setIfInBounds_toArray, List.set_cons_zero, List.set_cons_succ]
          first | (refine WkT.skip (m := 1) (k := 13) rfl (by rfl) ?_) | (refine WkT.pure (m := 1) (k := 13) (v := _) rfl (by rfl) (fun wv => by go_simp; try with_reducible rfl) ?_) | (refine WkT.step (m := 1) (k := 13) (v := _) rfl (by rfl) (by kernel_rfl) (fun wv hS => by obtain ⟨s0, s1, s2, s3, s4⟩ := hS; go_simp; try with_reducible rfl) ?_)
          try simp only [Act.put, List.getElem_toArray, List.getElem_cons_succ, List.getElem_cons_zero, List.setIfInBounds_toArray, List.set_cons_zero, List.set_cons_succ]
          first | (refine WkT.skip (m := 0) (k := 14) rfl (by rfl) ?_) | (refine WkT.pure (m := 0) (k := 14) (v := _) rfl (by rfl) (fun wv => by go_simp; try with_reducible rfl) ?_) | (refine WkT.step (m := 0) (k := 14) (v := _) rfl (by rfl) (by kernel_rfl) (fun wv hS => by obtain ⟨s0, s1, s2, s3, s4⟩ := hS; go_simp; try with_reducible rfl) ?_)
          try simp only [Act.put, List.getElem_toArray, List.getElem_cons_succ, List.getElem_cons_zero, List.setIfInBounds_toArray, List.set_cons_zero, List.set_cons_succ]
          refine WkT.done fun wE hE => ?_
          clear u1 c0 c1 c2
          obtain ⟨mE, u1, c0, c1, c2⟩ := hE
          simp only [List.drop_succ_cons, List.drop_zero]
          have MA := Mk.alloc wE (.cells #[.int .i64 (ifN y.nd y.eg)] 3)
          have hn1 := has_new .i64 wE 3 (ifN y.nd y.eg)
          have ho3 := own_keptR (own_keptR hown mE) MA
          have hlo3 := Nat.le_trans (Nat.le_trans hlow mE.size) MA.size
          go_wp2_with (at_builtin; refine wpList_app rfl (.tmp 44) (.tmp 59) 37 rfl W1.heap.size 3 i0 Try.underlying37 hi hz0 hz1 hby _ (L ++ [ifN y.nd y.ing]) ((L ++ [ifN y.nd y.ing])).length rfl ho3 _ 1 1 [ifN y.nd y.eg] rfl (fun h => by cases h) hn1 (by first | omega | (rw [List.length_append]; simp; omega)) hlo3 ?_; intro v2 w4 ho2 hg2 hvb2)
          have hMn := ((hM.trans mE).trans MA).appR hg2 (fun g hg => (ho3.lt g hg).1)
          have hLn : ((L ++ [ifN y.nd y.ing]) ++ [ifN y.nd y.eg]).length = ((L ++ [ifN y.nd y.ing])).length + 1 := by simp
          rw [← hLn] at ho2
          have HLn := Lib.hid hLn
          clear hLn ho3 hlo3 hvb2 hg2 hn1 MA mE hown hM c0 c1 c2 u1 hlow hbr
          have hown := ho2
          have hM := hMn
          clear ho2 hMn
          have hlow := hM.size
          have u1 := hM.cellAt U1.out
          obtain ⟨b9, off9, y9, eb9, _, hx9, c0, c1, c2⟩ := HasStep.at _ _ _ _ _ _ (h.mk (M0.trans hM) hB (.inr (Nat.le_refl _))) hlt
          simp only [Option.some.injEq, Addr.mk.injEq, and_true] at eb9
          obtain ⟨rfl, rfl⟩ := eb9
          obtain rfl : y = y9 := hx.out.trans hx9.out.symm
          have hbr := World.block_lt_of_cell? _ _ c0
          simp only at hbr
          go_wp2_with fail
          simp only [noPan]
          go_wp2_with fail
          go_roundw
          case rel => exact ⟨k + 1, by omega, by go_num, by rw [HE.out, HA.out, HBq.out, ← List.append_assoc]; exact hown, hM⟩
          case measure => simp [intOf]; omega
        · have e2' : (y.eg != 0) = false := by simp only [bne, e2]; rfl
          have HBq := Lib.hid (show endB y = [] from if_pos (by simpa using e2))
          clear e2
          go_wp2_with fail
          go_roundw
          case rel => exact ⟨k + 1, by omega, by go_num, by rw [HE.out, HA.out, HBq.out, List.append_nil]; exact hown, hM⟩
          case measure => simp [intOf]; omega
      · have e1' : (y.ing != 0) = false := by simp only [bne, e1]; rfl
        have HA := Lib.hid (show endA y = [] from if_pos (by simpa using e1))
        clear e1
        cases e2 : (y.eg == 0)
        · have e2' : (y.eg != 0) = true := by simp only [bne, e2]; rfl
          have HBq := Lib.hid (show endB y = [ifN y.nd y.eg] from if_neg (by simpa using e2))
          clear e2
          go_wp2_with fail
          refine wp_region_wkt (fun w' => Mk0 wr w' ∧ w'.cell? ⟨w.heap.size, 1, none⟩ = some (.slice (some ⟨b, off, none⟩) n c) ∧ w'.cell? ⟨b, off + k * 3, none⟩ = some (.int .i64 y.nd) ∧ w'.cell? ⟨b, off + k * 3 + 1, none⟩ = some (.int .i64 y.ing) ∧ w'.cell? ⟨b, off + k * 3 + 2, none⟩ = some (.int .i64 y.eg)) 15 (by kernel_rfl) (by kernel_rfl) (by kernel_rfl) (by decide) (⟨Mk.drew1 _, u1, c0, c1, c2⟩) ?_
          change WkT _ _ _ _ _ 15 0 _
          first | (refine WkT.skip (m := 14) (k := 0) rfl (by rfl) ?_) | (refine WkT.pure (m := 14) (k := 0) (v := _) rfl (by rfl) (fun wv => by go_simp; try with_reducible rfl) ?_) | (refine WkT.step (m := 14) (k := 0) (v := _) rfl (by rfl) (by kernel_rfl) (fun wv hS => by obtain ⟨s0, s1, s2, s3, s4⟩ := hS; go_simp; try with_reducible rfl) ?_)
          try simp only [Act.put, List.getElem_toArray, List.getElem_cons_zero, List.setIfInBounds_toArray, List.set_cons_zero, List.set_cons_succ]
          first | (refine WkT.skip (m := 13) (k := 1) rfl (by rfl) ?_) | (refine WkT.pure (m := 13) (k := 1) (v := _) rfl (by rfl) (fun wv => by go_simp; try with_reducible rfl) ?_) | (refine WkT.step (m := 13) (k := 1) (v := _) rfl (by rfl) (by kernel_rfl) (fun wv hS => by obtain ⟨s0, s1, s2, s3, s4⟩ := hS; go_simp; try with_reducible rfl) ?_)
          try simp only [Act.put, List.getElem_toArray, List.getElem_cons_succ, List.getElem_cons_zero, List.setIfInBounds_toArray, List.set_cons_zero, List.set_cons_succ]
          first | (refine WkT.skip (m := 12) (k := 2) rfl (by rfl) ?_) | (refine WkT.pure (m := 12) (k := 2) (v := _) rfl (by rfl) (fun wv => by go_simp; try with_reducible rfl) ?_) | (refine WkT.step (m := 12) (k := 2) (v := _) rfl (by rfl) (by kernel_rfl) (fun wv hS => by obtain ⟨s0, s1, s2, s3, s4⟩ := hS; go_simp; try with_reducible rfl) ?_)
          try simp only [Act.put, List.getElem_toArray, List.getElem_cons_succ, List.getElem_cons_zero, List.setIfInBounds_toArray, List.set_cons_zero, List.set_cons_succ]
          first | (refine WkT.skip (m := 11) (k := 3) rfl (by rfl) ?_) | (refine WkT.pure (m := 11) (k := 3) (v := _) rfl (by rfl) (fun wv => by go_simp; try with_reducible rfl) ?_) | (refine WkT.step (m := 11) (k := 3) (v := _) rfl (by rfl) (by kernel_rfl) (fun wv hS => by obtain ⟨s0, s1, s2, s3, s4⟩ := hS; go_simp; try with_reducible rfl) ?_)
          try simp only [Act.put, List.getElem_toArray, List.getElem_cons_succ, List.getElem_cons_zero, List.setIfInBounds_toArray, List.set_cons_zero, List.set_cons_succ]
          first | (refine WkT.skip (m := 10) (k := 4) rfl (by rfl) ?_) | (refine WkT.pure (m := 10) (k := 4) (v := _) rfl (by rfl) (fun wv => by go_simp; try with_reducible rfl) ?_) | (refine WkT.step (m := 10) (k := 4) (v := _) rfl (by rfl) (by kernel_rfl) (fun wv hS => by obtain ⟨s0, s1, s2, s3, s4⟩ := hS; go_simp; try with_reducible rfl) ?_)
          try simp only [Act.put, List.getElem_toArray, List.getElem_cons_succ, List.getElem_cons_zero, List.setIfInBounds_toArray, List.set_cons_zero, List.set_cons_succ]
          first | (refine WkT.skip (m := 9) (k := 5) rfl (by rfl) ?_) | (refine WkT.pure (m := 9) (k := 5) (v := _) rfl (by rfl) (fun wv => by go_simp; try with_reducible rfl) ?_) | (refine WkT.step (m := 9) (k := 5) (v := _) rfl (by rfl) (by kernel_rfl) (fun wv hS => by obtain ⟨s0, s1, s2, s3, s4⟩ := hS; go_simp; try with_reducible rfl) ?_)
          try simp only [Act.put, List.getElem_toArray, List.getElem_cons_succ, List.getElem_cons_zero, List.setIfInBounds_toArray, List.set_cons_zero, List.set_cons_succ]
          first | (refine WkT.skip (m := 8) (k := 6) rfl (by rfl) ?_) | (refine WkT.pure (m := 8) (k := 6) (v := _) rfl (by rfl) (fun wv => by go_simp; try with_reducible rfl) ?_) | (refine WkT.step (m := 8) (k := 6) (v := _) rfl (by rfl) (by kernel_rfl) (fun wv hS => by obtain ⟨s0, s1, s2, s3, s4⟩ := hS; go_simp; try with_reducible rfl) ?_)
          try simp only [Act.put, List.getElem_toArray, List.getElem_cons_succ, List.getElem_cons_zero, List.setIfInBounds_toArray, List.set_cons_zero, List.set_cons_succ]
          first | (refine WkT.skip (m := 7) (k := 7) rfl (by rfl) ?_) | (refine WkT.pure (m := 7) (k := 7) (v := _) rfl (by rfl) (fun wv => by go_simp; try with_reducible rfl) ?_) | (refine WkT.step (m := 7) (k := 7) (v := _) rfl (by rfl) (by kernel_rfl) (fun wv hS => by obtain ⟨s0, s1, s2, s3, s4⟩ := hS; go_simp; try with_reducible rfl) ?_)
          try simp only [Act.put, List.getElem_toArray, List.getElem_cons_succ, List.getElem_cons_zero, List.setIfInBounds_toArray, List.set_cons_zero, List.set_cons_succ]
          first | (refine WkT.skip (m := 6) (k := 8) rfl (by rfl) ?_) | (refine WkT.pure (m := 6) (k := 8) (v := _) rfl (by rfl) (fun wv => by go_simp; try with_reducible rfl) ?_) | (refine WkT.step (m := 6) (k := 8) (v := _) rfl (by rfl) (by kernel_rfl) (fun wv hS => by obtain ⟨s0, s1, s2, s3, s4⟩ := hS; go_simp; try with_reducible rfl) ?_)
          try simp only [Act.put, List.getElem_toArray, List.getElem_cons_succ, List.getElem_cons_zero, List.setIfInBounds_toArray, List.set_cons_zero, List.set_cons_succ]
          first | (refine WkT.skip (m := 5) (k := 9) rfl (by rfl) ?_) | (refine WkT.pure (m := 5) (k := 9) (v := _) rfl (by rfl) (fun wv => by go_simp; try with_reducible rfl) ?_) | (refine WkT.step (m := 5) (k := 9) (v := _) rfl (by rfl) (by kernel_rfl) (fun wv hS => by obtain ⟨s0, s1, s2, s3, s4⟩ := hS; go_simp; try with_reducible rfl) ?_)
          try simp only [Act.put, List.getElem_toArray, List.getElem_cons_succ, List.getElem_cons_zero, List.setIfInBounds_toArray, List.set_cons_zero, List.set_cons_succ]
          first | (refine WkT.skip (m := 4) (k := 10) rfl (by rfl) ?_) | (refine WkT.pure (m := 4) (k := 10) (v := _) rfl (by rfl) (fun wv => by go_simp; try with_reducible rfl) ?_) | (refine WkT.step (m := 4) (k := 10) (v := _) rfl (by rfl) (by kernel_rfl) (fun wv hS => by obtain ⟨s0, s1, s2, s3, s4⟩ := hS; go_simp; try with_reducible rfl) ?_)
          try simp only [Act.put, List.getElem_toArray, List.getElem_cons_succ, List.getElem_cons_zero, List.setIfInBounds_toArray, List.set_cons_zero, List.set_cons_succ]
          first | (refine WkT.skip (m := 3) (k := 11) rfl (by rfl) ?_) | (refine WkT.pure (m := 3) (k := 11) (v := _) rfl (by rfl) (fun wv => by go_simp; try with_reducible rfl) ?_) | (refine WkT.step (m := 3) (k := 11) (v := _) rfl (by rfl) (by kernel_rfl) (fun wv hS => by obtain ⟨s0, s1, s2, s3, s4⟩ := hS; go_simp; try with_reducible rfl) ?_)
          try simp only [Act.put, List.getElem_toArray, List.getElem_cons_succ, List.getElem_cons_zero, List.setIfInBounds_toArray, List.set_cons_zero, List.set_cons_succ]
          first | (refine WkT.skip (m := 2) (k := 12) rfl (by rfl) ?_) | (refine WkT.pure (m := 2) (k := 12) (v := _) rfl (by rfl) (fun wv => by go_simp; try with_reducible rfl) ?_) | (refine WkT.step (m := 2) (k := 12) (v := _) rfl (by rfl) (by kernel_rfl) (fun wv hS => by obtain ⟨s0, s1, s2, s3, s4⟩ := hS; go_simp; try with_reducible rfl) ?_)
          try simp only [Act.put, List.getElem_toArray, List.getElem_cons_succ, List.getElem_cons_zero, List.setIfInBounds_toArray, List.set_cons_zero, List.set_cons_succ]
          first | (refine WkT.skip (m := 1) (k := 13) rfl (by rfl) ?_) | (refine WkT.pure (m := 1) (k := 13) (v := _) rfl (by rfl) (fun wv => by go_simp; try with_reducible rfl) ?_) | (refine WkT.step (m := 1) (k := 13) (v := _) rfl (by rfl) (by kernel_rfl) (fun wv hS => by obtain ⟨s0, s1, s2, s3, s4⟩ := hS; go_simp; try with_reducible rfl) ?_)
          try simp only [Act.put, List.getElem_toArray, List.getElem_cons_succ, List.getElem_cons_zero, List.setIfInBounds_toArray, List.set_cons_zero, List.set_cons_succ]
          first | (refine WkT.skip (m := 0) (k := 14) rfl (by rfl) ?_) | (refine WkT.pure (m := 0) (k := 14) (v := _) rfl (by rfl) (fun wv => by go_simp; try with_reducible rfl) ?_) | (refine WkT.step (m := 0) (k := 14) (v := _) rfl (by rfl) (by kernel_rfl) (fun wv hS => by obtain ⟨s0, s1, s2, s3, s4⟩ := hS; go_simp; try with_reducible rfl) ?_)
          try simp only [Act.put, List.getElem_toArray, List.getElem_cons_succ, List.getElem_cons_zero, List.setIfInBounds_toArray, List.set_cons_zero, List.set_cons_succ]
          refine WkT.done fun wE hE => ?_
          clear u1 c0 c1 c2
          obtain ⟨mE, u1, c0, c1, c2⟩ := hE
          simp only [List.drop_succ_cons, List.drop_zero]
          have MA := Mk.alloc wE (.cells #[.int .i64 (ifN y.nd y.eg)] 3)
          have hn1 := has_new .i64 wE 3 (ifN y.nd y.eg)
          have ho3 := own_keptR (own_keptR hown mE) MA
          have hlo3 := Nat.le_trans (Nat.le_trans hlow mE.size) MA.size
          go_wp2_with (at_builtin; refine wpList_app rfl (.tmp 44) (.tmp 59) 37 rfl W1.heap.size 3 i0 Try.underlying37 hi hz0 hz1 hby _ L (L).length rfl ho3 _ 1 1 [ifN y.nd y.eg] rfl (fun h => by cases h) hn1 (by first | omega | (rw [List.length_append]; simp; omega)) hlo3 ?_; intro v2 w4 ho2 hg2 hvb2)
          have hMn := ((hM.trans mE).trans MA).appR hg2 (fun g hg => (ho3.lt g hg).1)
          have hLn : (L ++ [ifN y.nd y.eg]).length = (L).length + 1 := by simp
          rw [← hLn] at ho2
          have HLn := Lib.hid hLn
          clear hLn ho3 hlo3 hvb2 hg2 hn1 MA mE hown hM c0 c1 c2 u1 hlow hbr
          have hown := ho2
          have hM := hMn
          clear ho2 hMn
          have hlow := hM.size
          have u1 := hM.cellAt U1.out
          obtain ⟨b9, off9, y9, eb9, _, hx9, c0, c1, c2⟩ := HasStep.at _ _ _ _ _ _ (h.mk (M0.trans hM) hB (.inr (Nat.le_refl _))) hlt
          simp only [Option.some.injEq, Addr.mk.injEq, and_true] at eb9
          obtain ⟨rfl, rfl⟩ := eb9
          obtain rfl : y = y9 := hx.out.trans hx9.out.symm
          have hbr := World.block_lt_of_cell? _ _ c0
          simp only at hbr
          go_wp2_with fail
          simp only [noPan]
          go_wp2_with fail
          go_roundw
          case rel => exact ⟨k + 1, by omega, by go_num, by rw [HE.out, HA.out, HBq.out, List.nil_append]; exact hown, hM⟩
          case measure => simp [intOf]; omega
        · have e2' : (y.eg != 0) = false := by simp only [bne, e2]; rfl
          have HBq := Lib.hid (show endB y = [] from if_pos (by simpa using e2))
          clear e2
          go_wp2_with fail
          go_roundw
          case rel => exact ⟨k + 1, by omega, by go_num, by rw [HE.out, HA.out, HBq.out, List.append_nil, List.append_nil]; exact hown, hM⟩
          case measure => simp [intOf]; omega
    · obtain rfl : k = n := by omega
      go_wp2_with fail
      go_ret
      exact OutOwnI.of (own_low hown M0.size) (M0.trans hM)

set_option maxRecDepth 100000 in
set_option maxHeartbeats 4000000 in
theorem implTrc (x0 x2 x3 x4 x6 x7 x8 x9 x10 : Int) (a a5 a11 : Option Addr) (n c n5 c5 n11 c11 B : Nat) (zs : List TStep) (w : World) (h : HasStep w B a n zs) (hB : B ≤ w.heap.size) (hn : n ≤ 1048576) :
    Calls Try.prog 24 #[.agg #[.int .i64 x0, .slice a n c, .int .i64 x2, .int .i64 x3, .int .i64 x4, .slice a5 n5 c5, .int .i64 x6, .int .i64 x7, .int .i64 x8, .int .i64 x9, .int .i64 x10, .slice a11 n11 c11]] w (OutOwnI 3 w (usedUp zs n)) := by
  obtain ⟨i0, hi, hz0, hz1, hz2⟩ := info_parts infoI64
  have hby : i0.bytes ≤ 8 := by rw [hz2]; decide
  have M0 := Mk.alloc w (Obj.cells #[Value.int .i64 x0, Value.slice a n c, Value.int .i64 x2, Value.int .i64 x3, Value.int .i64 x4, Value.slice a5 n5 c5, Value.int .i64 x6, Value.int .i64 x7, Value.int .i64 x8, Value.int .i64 x9, Value.int .i64 x10, Value.slice a11 n11 c11] 61)
  have hsz := Lib.hid (World.size_alloc w (Obj.cells #[Value.int .i64 x0, Value.slice a n c, Value.int .i64 x2, Value.int .i64 x3, Value.int .i64 x4, Value.slice a5 n5 c5, Value.int .i64 x6, Value.int .i64 x7, Value.int .i64 x8, Value.int .i64 x9, Value.int .i64 x10, Value.slice a11 n11 c11] 61))
  have u1 : (w.alloc (Obj.cells #[Value.int .i64 x0, Value.slice a n c, Value.int .i64 x2, Value.int .i64 x3, Value.int .i64 x4, Value.slice a5 n5 c5, Value.int .i64 x6, Value.int .i64 x7, Value.int .i64 x8, Value.int .i64 x9, Value.int .i64 x10, Value.slice a11 n11 c11] 61)).cell? ⟨w.heap.size, 1, none⟩ = some (.slice a n c) := by simp [go_sem]
  generalize hW1 : w.alloc (Obj.cells #[Value.int .i64 x0, Value.slice a n c, Value.int .i64 x2, Value.int .i64 x3, Value.int .i64 x4, Value.slice a5 n5 c5, Value.int .i64 x6, Value.int .i64 x7, Value.int .i64 x8, Value.int .i64 x9, Value.int .i64 x10, Value.slice a11 n11 c11] 61) = W1 at *
  have u1' := (Mk.alloc W1 (.cells #[] 3)).cellAt u1
  go_enter Try.func24, Try.ntmps24
  go_wp2_with fail
  clear hW1 u1'
  have hl0 := own_empI W1 3
  have ML := Mk.alloc W1 (.cells #[] 3)
  go_loopw [3, 10] (fun v i wr => ∃ k : Nat, k ≤ n ∧ i = .int .i64 k ∧ wr.ownsRow W1.heap.size 3 1 v (usedUp zs k).length ((usedUp zs k).map (.int .i64)) ∧ Mk0 W1 wr) (fun _ i _ => n - (intOf i).toNat)
  case atStart => exact ⟨0, Nat.zero_le _, rfl, hl0, ML⟩
  case round =>
    clear hl0 ML
    obtain ⟨k, hk, rfl, hown, hM⟩ := hrel
    have hul := usedUp_len zs k
    replace u1 := hM.cellAt u1
    by_cases hlt : k < n
    · obtain ⟨b, off, y, rfl, hb, hx, c0, c1, c2⟩ := HasStep.at _ _ _ _ _ _ (h.mk (M0.trans hM) hB (.inr (Nat.le_refl _))) hlt
      have hbr := World.block_lt_of_cell? _ _ c0
      simp only at hbr
      have i1 : (0 : Int) ≤ (k : Int) := by omega
      have i2 : (k : Int) < (n : Int) := by omega
      have hlow := hM.size
      have HE := Lib.hid (show usedUp zs (k + 1) = usedUp zs k ++ (endA y ++ endB y) by rw [usedUp, ← hx.out])
      obtain ⟨L, hLq⟩ : ∃ L, Hid (L = usedUp zs k) := ⟨_, rfl⟩
      rw [← hLq.out] at hown hul HE
      have MX := Mk.alloc wr (Obj.cells #[Value.int .i64 y.nd, Value.int .i64 y.ing, Value.int .i64 y.eg] 114)
      go_wp2_with fail
      refine (implArr y _).mono ?_
      rintro e w2 ⟨rfl, ma⟩
      go_wp2_with fail
      refine (implEnds2 y _).mono ?_
      rintro e w3 ⟨v3, rfl, ow3, m3⟩
      obtain ⟨A3, c3, rfl, hcc3⟩ := ownsRow_slice ow3
      have hE3 := (ownsRow_own ow3).has
      have M3 := (MX.trans ma).trans m3
      have hown3 := own_keptR hown M3
      have hlo3 := Nat.le_trans hlow M3.size
      obtain ⟨m, hm⟩ : ∃ m, Hid (m = (endA y ++ endB y).length) := ⟨_, rfl⟩
      have hml : m ≤ 2 := by have h1 := endA_len y; have h2 := endB_len y; have := hm.out; rw [List.length_append] at this; omega
      rw [← hm.out] at hE3 ⊢
      go_wp2_with (at_builtin; refine wpList_app rfl (.tmp 14) (.tmp 17) 37 rfl W1.heap.size 3 i0 Try.underlying37 hi hz0 hz1 hby _ L L.length rfl hown3 _ m c3 (endA y ++ endB y) rfl hcc3 hE3 (by omega) hlo3 ?_; intro v2 w4 ho2 hg2 hvb2)
      have M4 := (hM.trans M3).appR hg2 (fun g hg => (hown3.lt g hg).1)
      go_wp2_with fail
      go_roundw
      case rel => exact ⟨k + 1, by omega, by go_num, by rw [HE.out, List.length_append, ← hm.out]; exact ho2, M4⟩
      case measure => simp [intOf]; omega
    · obtain rfl : k = n := by omega
      go_wp2_with fail
      go_ret
      exact OutOwnI.of (own_low hown M0.size) (M0.trans hM)

end Go.Proofs.Ytkmofhpipcodbaa
