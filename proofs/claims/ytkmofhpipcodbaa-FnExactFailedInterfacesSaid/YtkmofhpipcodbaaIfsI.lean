
/- Interfaces of the program. -/
import Derived.Test.YtkmofhpipcodbaaIfsM
import Derived.Test.YtkmofhpipcodbaaSortI
import Derived.Test.YtkmofhpipcodbaaCTopology
import Derived.Test.YtkmofhpipcodbaaPorts
import Derived.Test.YtkmofhpipcodbaaWk
import Derived.Test.YtkmofhpipcodbaaRealm
import Derived.Test.YtkmofhpipcodbaaInfo
namespace Go.Proofs.Ytkmofhpipcodbaa
open Go.ChangeShapes Go.WideShapes Go.ChangeAt Go.RowKit
set_option linter.unusedVariables false
set_option maxRecDepth 100000 in
set_option maxHeartbeats 4000000 in
theorem implIfs (a0 a1 : Option Addr) (n0 c0 n1 c1 B : Nat) (zl : List TLink) (r : Int) (w : World) (hl : HasLink w B a1 n1 zl) (hB : B ≤ w.heap.size) (hn1 : n1 ≤ 1048576) :
    Calls Try.prog 58 #[.agg #[.slice a0 n0 c0, .slice a1 n1 c1], .int .i64 r] w (OutIfs w (uniqL (ifUp zl r n1))) := by
  obtain ⟨i0, hi, hz0, hz1, hz2⟩ := info_parts infoI64
  have hby : i0.bytes ≤ 8 := by rw [hz2]; decide
  have M0 := Mk.alloc w (Obj.cells #[Value.slice a0 n0 c0, Value.slice a1 n1 c1] 43)
  have k1 : (w.alloc (Obj.cells #[Value.slice a0 n0 c0, Value.slice a1 n1 c1] 43)).cell? ⟨w.heap.size, 1, none⟩ = some (.slice a1 n1 c1) := by simp [go_sem]
  have hs1 : (w.alloc (Obj.cells #[Value.slice a0 n0 c0, Value.slice a1 n1 c1] 43)).heap.size = w.heap.size + 1 := by rw [World.size_alloc]
  have hA : ((w.alloc (Obj.cells #[Value.slice a0 n0 c0, Value.slice a1 n1 c1] 43)).alloc (.cells #[] 3)).ownsRow (w.alloc (Obj.cells #[Value.slice a0 n0 c0, Value.slice a1 n1 c1] 43)).heap.size 3 1 (.slice (some ⟨(w.alloc (Obj.cells #[Value.slice a0 n0 c0, Value.slice a1 n1 c1] 43)).heap.size, 0, none⟩) 0 0) 0 (([] : List Int).map (.int .i64)) := own_lit (w.alloc (Obj.cells #[Value.slice a0 n0 c0, Value.slice a1 n1 c1] 43)) 3 [] (by simp)
  rw [hs1] at hA
  have ML := Mk.alloc (w.alloc (Obj.cells #[Value.slice a0 n0 c0, Value.slice a1 n1 c1] 43)) (.cells #[] 3)
  replace k1 := ML.cellAt k1
  go_enter Try.func58, Try.ntmps58
  go_wp2_with fail
  go_loopw [5, 14] (fun v i wr => ∃ k : Nat, k ≤ n1 ∧ i = .int .i64 k ∧ wr.ownsRow (w.heap.size + 1) 3 1 v (ifUp zl r k).length ((ifUp zl r k).map (.int .i64)) ∧ Mk0 (w.alloc (Obj.cells #[Value.slice a0 n0 c0, Value.slice a1 n1 c1] 43)) wr) (fun _ i _ => n1 - (intOf i).toNat)
  case atStart => exact ⟨0, Nat.zero_le _, rfl, hA, ML⟩
  case round =>
    clear hA ML
    obtain ⟨k, hk, rfl, hown, hM⟩ := hrel
    have hM' := M0.trans hM
    have hul := ifUp_le zl r k
    by_cases hlt : k < n1
    · obtain ⟨b1, o1, x, rfl, hb1, hx, d0, d1, d2, d3, d4⟩ := HasLink.at _ _ _ _ _ _ (hl.mk hM' hB (.inr (Nat.le_refl _))) hlt
      have hbr := World.block_lt_of_cell? _ _ d0
      simp only at hbr
      have i1 : (0 : Int) ≤ (k : Int) := by omega
      have i2 : (k : Int) < (n1 : Int) := by omega
      have MX := Mk.alloc wr (Obj.cells #[Value.int .i64 x.a, Value.int .i64 x.ai, Value.int .i64 x.b, Value.int .i64 x.bi, Value.int .i64 x.kind] 162)
      have q0 : (wr.alloc (Obj.cells #[Value.int .i64 x.a, Value.int .i64 x.ai, Value.int .i64 x.b, Value.int .i64 x.bi, Value.int .i64 x.kind] 162)).cell? ⟨wr.heap.size, 0, none⟩ = some (.int .i64 x.a) := by simp [go_sem]
      have q1 : (wr.alloc (Obj.cells #[Value.int .i64 x.a, Value.int .i64 x.ai, Value.int .i64 x.b, Value.int .i64 x.bi, Value.int .i64 x.kind] 162)).cell? ⟨wr.heap.size, 1, none⟩ = some (.int .i64 x.ai) := by simp [go_sem]
      have q2 : (wr.alloc (Obj.cells #[Value.int .i64 x.a, Value.int .i64 x.ai, Value.int .i64 x.b, Value.int .i64 x.bi, Value.int .i64 x.kind] 162)).cell? ⟨wr.heap.size, 2, none⟩ = some (.int .i64 x.b) := by simp [go_sem]
      have q3 : (wr.alloc (Obj.cells #[Value.int .i64 x.a, Value.int .i64 x.ai, Value.int .i64 x.b, Value.int .i64 x.bi, Value.int .i64 x.kind] 162)).cell? ⟨wr.heap.size, 3, none⟩ = some (.int .i64 x.bi) := by simp [go_sem]
      have q4 : (wr.alloc (Obj.cells #[Value.int .i64 x.a, Value.int .i64 x.ai, Value.int .i64 x.b, Value.int .i64 x.bi, Value.int .i64 x.kind] 162)).cell? ⟨wr.heap.size, 4, none⟩ = some (.int .i64 x.kind) := by simp [go_sem]
      have hownX := own_keptR hown MX
      clear hown
      have hx0 : ∀ w', (Instr.index 175 (.agg #[.int .i64 x.a, .int .i64 x.ai, .int .i64 x.b, .int .i64 x.bi]) (.int .i64 0)).run Try.prog w' = .ok (.agg #[.int .i64 x.a, .int .i64 x.ai]) w' := fun _ => by kernel_rfl
      have hx1 : ∀ w', (Instr.index 175 (.agg #[.int .i64 x.a, .int .i64 x.ai, .int .i64 x.b, .int .i64 x.bi]) (.int .i64 1)).run Try.prog w' = .ok (.agg #[.int .i64 x.b, .int .i64 x.bi]) w' := fun _ => by kernel_rfl
      go_wp2_with fail
      clear d0 d1 d2 d3 d4
      refine wp_region_wk (fun w' => Mk0 (wr.alloc (Obj.cells #[Value.int .i64 x.a, Value.int .i64 x.ai, Value.int .i64 x.b, Value.int .i64 x.bi, Value.int .i64 x.kind] 162)) w' ∧ w'.cell? ⟨wr.heap.size, 0, none⟩ = some (.int .i64 x.a) ∧ w'.cell? ⟨wr.heap.size, 1, none⟩ = some (.int .i64 x.ai) ∧ w'.cell? ⟨wr.heap.size, 2, none⟩ = some (.int .i64 x.b) ∧ w'.cell? ⟨wr.heap.size, 3, none⟩ = some (.int .i64 x.bi) ∧ w'.cell? ⟨wr.heap.size, 4, none⟩ = some (.int .i64 x.kind)) (by kernel_rfl) (by kernel_rfl) (⟨Mk.drew1 _, q0, q1, q2, q3, q4⟩) ?_
      change Wk _ _ _ _ 6 0 _
      first | (refine Wk.skip (m := 5) (k := 0) rfl (by rfl) ?_) | (refine Wk.step (m := 5) (k := 0) (v := _) rfl (by rfl) (fun wv hS => by obtain ⟨s0, s1, s2, s3, s4, s5⟩ := hS; go_simp; try with_reducible rfl) ?_)
      try simp only [Act.put, List.getElem_toArray, List.getElem_cons_zero, List.setIfInBounds_toArray, List.set_cons_zero, List.set_cons_succ]
      refine Wk.call (m := 4) (k := 1) (v := .agg #[.int .i64 x.a, .int .i64 x.ai]) _ _ rfl (by rfl) (fun wv hS => by obtain ⟨s0, s1, s2, s3, s4, s5⟩ := hS; go_simp; first | done | exact ⟨rfl, rfl⟩ | with_reducible rfl) (fun wv hS => ?_) ?_; · obtain ⟨s0, s1, s2, s3, s4, s5⟩ := hS; refine (portA x.a x.ai x.b x.bi x.kind wv).mono ?_; rintro e w' ⟨he, mm⟩; exact ⟨he, ⟨s0.trans mm, mm.cellAt s1, mm.cellAt s2, mm.cellAt s3, mm.cellAt s4, mm.cellAt s5⟩⟩
      try simp only [Act.put, List.getElem_toArray, List.getElem_cons_succ, List.getElem_cons_zero, List.setIfInBounds_toArray, List.set_cons_zero, List.set_cons_succ]
      first | (refine Wk.skip (m := 3) (k := 2) rfl (by rfl) ?_) | (refine Wk.step (m := 3) (k := 2) (v := _) rfl (by rfl) (fun wv hS => by obtain ⟨s0, s1, s2, s3, s4, s5⟩ := hS; go_simp; try with_reducible rfl) ?_)
      try simp only [Act.put, List.getElem_toArray, List.getElem_cons_succ, List.getElem_cons_zero, List.setIfInBounds_toArray, List.set_cons_zero, List.set_cons_succ]
      refine Wk.call (m := 2) (k := 3) (v := .agg #[.int .i64 x.b, .int .i64 x.bi]) _ _ rfl (by rfl) (fun wv hS => by obtain ⟨s0, s1, s2, s3, s4, s5⟩ := hS; go_simp; first | done | exact ⟨rfl, rfl⟩ | with_reducible rfl) (fun wv hS => ?_) ?_; · obtain ⟨s0, s1, s2, s3, s4, s5⟩ := hS; refine (portB x.a x.ai x.b x.bi x.kind wv).mono ?_; rintro e w' ⟨he, mm⟩; exact ⟨he, ⟨s0.trans mm, mm.cellAt s1, mm.cellAt s2, mm.cellAt s3, mm.cellAt s4, mm.cellAt s5⟩⟩
      try simp only [Act.put, List.getElem_toArray, List.getElem_cons_succ, List.getElem_cons_zero, List.setIfInBounds_toArray, List.set_cons_zero, List.set_cons_succ]
      first | (refine Wk.skip (m := 1) (k := 4) rfl (by rfl) ?_) | (refine Wk.step (m := 1) (k := 4) (v := _) rfl (by rfl) (fun wv hS => by obtain ⟨s0, s1, s2, s3, s4, s5⟩ := hS; go_simp; try with_reducible rfl) ?_)
      try simp only [Act.put, List.getElem_toArray, List.getElem_cons_succ, List.getElem_cons_zero, List.setIfInBounds_toArray, List.set_cons_zero, List.set_cons_succ]
      first | (refine Wk.skip (m := 0) (k := 5) rfl (by rfl) ?_) | (refine Wk.step (m := 0) (k := 5) (v := _) rfl (by rfl) (fun wv hS => by obtain ⟨s0, s1, s2, s3, s4, s5⟩ := hS; go_simp; try with_reducible rfl) ?_)
      try simp only [Act.put, List.getElem_toArray, List.getElem_cons_succ, List.getElem_cons_zero, List.setIfInBounds_toArray, List.set_cons_zero, List.set_cons_succ]
      refine Wk.done fun wE hE => ?_
      clear q0 q1 q2 q3 q4
      obtain ⟨mE, q0, q1, q2, q3, q4⟩ := hE
      replace hownX := own_keptR hownX mE
      have MR := (hM.trans MX).trans mE
      have hlow := MR.size
      clear q0 q1 q2 q3 q4 hM hM' MX mE
      go_wp2_with fail
      obtain ⟨L, hL⟩ : ∃ L, Hid (L = ifUp zl r k) := ⟨_, Lib.hid rfl⟩
      rw [← hL.out] at hownX hul
      go_loopw [5, 23] (fun v i wi => ∃ j : Int, (j = 0 ∨ j = 1 ∨ j = 2) ∧ i = .int .i64 j ∧ wi.ownsRow (w.heap.size + 1) 3 1 v (L ++ ifJ r x j.toNat).length ((L ++ ifJ r x j.toNat).map (.int .i64)) ∧ Mk0 (w.alloc (Obj.cells #[Value.slice a0 n0 c0, Value.slice (some ⟨b1, o1, none⟩) n1 c1] 43)) wi) (fun _ i _ => 2 - (intOf i).toNat)
      case atStart => exact ⟨0, .inl rfl, rfl, by simpa [ifJ] using hownX, MR⟩
      case round =>
        clear hownX MR hlow
        obtain ⟨j, hj, rfl, hown, hM⟩ := hrel
        have hM' := M0.trans hM
        have hlow := hM.size
        rw [hs1] at hlow
        rcases hj with rfl | rfl | rfl
        · change _root_.Go.World.ownsRow _ _ _ _ _ (L ++ ifJ r x 0).length ((L ++ ifJ r x 0).map (.int .i64)) at hown
          have hlen : (L ++ ifJ r x 0).length ≤ 2 * k + 0 := by rw [List.length_append]; have := ifA_le r x; simp only [ifJ, List.length_nil]; omega
          have MB := Mk.alloc wr (Obj.cells #[Value.int .i64 x.a, Value.int .i64 x.ai] 173)
          obtain ⟨LJ, hLJ⟩ : ∃ LJ, Hid (LJ = L ++ ifJ r x 0) := ⟨_, Lib.hid rfl⟩
          rw [← hLJ.out] at hown hlen
          cases ep : (x.a == r)
          · have HE := Lib.hid (show L ++ ifJ r x 1 = LJ by rw [hLJ.out, show ifJ r x 1 = ifJ r x 0 ++ ifA r x from (List.nil_append _).symm]; unfold ifA; rw [if_neg (by simpa using ep), List.append_nil])
            go_wp2_with fail
            go_roundw
            case rel => exact ⟨1, by omega, rfl, (show _root_.Go.World.ownsRow _ _ _ _ _ (L ++ ifJ r x 1).length ((L ++ ifJ r x 1).map (.int .i64)) by rw [HE.out]; exact own_keptR hown MB), hM.trans MB⟩
            case measure => simp [intOf]
          · have HE := Lib.hid (show L ++ ifJ r x 1 = LJ ++ [x.ai] by rw [hLJ.out, show ifJ r x 1 = ifJ r x 0 ++ ifA r x from (List.nil_append _).symm]; unfold ifA; rw [if_pos (by simpa using ep), List.append_assoc])
            have hn1' := has_new .i64 (wr.alloc (Obj.cells #[Value.int .i64 x.a, Value.int .i64 x.ai] 173)) 3 x.ai
            rw [World.size_alloc wr] at hn1'
            have MA := Mk.alloc (wr.alloc (Obj.cells #[Value.int .i64 x.a, Value.int .i64 x.ai] 173)) (.cells #[.int .i64 x.ai] 3)
            have ho' := own_keptR (own_keptR hown MB) MA
            have hlo' : w.heap.size + 1 ≤ ((wr.alloc (Obj.cells #[Value.int .i64 x.a, Value.int .i64 x.ai] 173)).alloc (.cells #[.int .i64 x.ai] 3)).heap.size := by rw [World.size_alloc, World.size_alloc]; omega
            go_wp2_with (at_builtin; refine wpList_app rfl (.tmp 30) (.tmp 33) 37 rfl _ 3 i0 Try.underlying37 hi hz0 hz1 hby _ LJ LJ.length rfl ho' _ 1 1 [x.ai] rfl (fun h => by cases h) hn1' (by omega) hlo' ?_; intro v3 w3 ho3 hg3 _)
            have M3 := (hM.trans (MB.trans MA)).appR hg3 (fun g hg => by have := (ho'.lt g hg).1; rw [hs1]; omega)
            go_wp2_with fail
            go_roundw
            case rel => exact ⟨1, by omega, rfl, (show _root_.Go.World.ownsRow _ _ _ _ _ (L ++ ifJ r x 1).length ((L ++ ifJ r x 1).map (.int .i64)) by rw [HE.out, List.length_append]; exact ho3), M3⟩
            case measure => simp [intOf]
        · change _root_.Go.World.ownsRow _ _ _ _ _ (L ++ ifJ r x 1).length ((L ++ ifJ r x 1).map (.int .i64)) at hown
          have hlen : (L ++ ifJ r x 1).length ≤ 2 * k + 1 := by rw [List.length_append]; have := ifA_le r x; simp only [ifJ]; omega
          have MB := Mk.alloc wr (Obj.cells #[Value.int .i64 x.b, Value.int .i64 x.bi] 173)
          obtain ⟨LJ, hLJ⟩ : ∃ LJ, Hid (LJ = L ++ ifJ r x 1) := ⟨_, Lib.hid rfl⟩
          rw [← hLJ.out] at hown hlen
          cases ep : (x.b == r)
          · have HE := Lib.hid (show L ++ ifJ r x 2 = LJ by rw [hLJ.out, show ifJ r x 2 = ifJ r x 1 ++ ifB r x from rfl]; unfold ifB; rw [if_neg (by simpa using ep), List.append_nil])
            go_wp2_with fail
            go_roundw
            case rel => exact ⟨2, by omega, rfl, (show _root_.Go.World.ownsRow _ _ _ _ _ (L ++ ifJ r x 2).length ((L ++ ifJ r x 2).map (.int .i64)) by rw [HE.out]; exact own_keptR hown MB), hM.trans MB⟩
            case measure => simp [intOf]
          · have HE := Lib.hid (show L ++ ifJ r x 2 = LJ ++ [x.bi] by rw [hLJ.out, show ifJ r x 2 = ifJ r x 1 ++ ifB r x from rfl]; unfold ifB; rw [if_pos (by simpa using ep), List.append_assoc])
            have hn1' := has_new .i64 (wr.alloc (Obj.cells #[Value.int .i64 x.b, Value.int .i64 x.bi] 173)) 3 x.bi
            rw [World.size_alloc wr] at hn1'
            have MA := Mk.alloc (wr.alloc (Obj.cells #[Value.int .i64 x.b, Value.int .i64 x.bi] 173)) (.cells #[.int .i64 x.bi] 3)
            have ho' := own_keptR (own_keptR hown MB) MA
            have hlo' : w.heap.size + 1 ≤ ((wr.alloc (Obj.cells #[Value.int .i64 x.b, Value.int .i64 x.bi] 173)).alloc (.cells #[.int .i64 x.bi] 3)).heap.size := by rw [World.size_alloc, World.size_alloc]; omega
            go_wp2_with (at_builtin; refine wpList_app rfl (.tmp 30) (.tmp 33) 37 rfl _ 3 i0 Try.underlying37 hi hz0 hz1 hby _ LJ LJ.length rfl ho' _ 1 1 [x.bi] rfl (fun h => by cases h) hn1' (by omega) hlo' ?_; intro v3 w3 ho3 hg3 _)
            have M3 := (hM.trans (MB.trans MA)).appR hg3 (fun g hg => by have := (ho'.lt g hg).1; rw [hs1]; omega)
            go_wp2_with fail
            go_roundw
            case rel => exact ⟨2, by omega, rfl, (show _root_.Go.World.ownsRow _ _ _ _ _ (L ++ ifJ r x 2).length ((L ++ ifJ r x 2).map (.int .i64)) by rw [HE.out, List.length_append]; exact ho3), M3⟩
            case measure => simp [intOf]
        · change _root_.Go.World.ownsRow _ _ _ _ _ (L ++ ifJ r x 2).length ((L ++ ifJ r x 2).map (.int .i64)) at hown
          have HE := Lib.hid (show ifUp zl r (k + 1) = L ++ ifJ r x 2 by rw [ifUp, ← hx.out, ← hL.out]; rfl)
          go_wp2_with fail
          go_roundw
          case rel => exact ⟨k + 1, by omega, by go_num, by rw [HE.out]; exact hown, hM⟩
          case measure => simp [intOf]; omega
    · obtain rfl : k = n1 := by omega
      obtain ⟨A, C, rfl, hA, hNC⟩ := ownsRow_sliceR2 hown
      have hO := ownsRow_own hown
      clear hown
      have hb : (ifUp zl r k).length ≤ 1073741824 := by omega
      obtain ⟨N, hN⟩ : ∃ N, Hid (N = (ifUp zl r k).length) := ⟨_, Lib.hid rfl⟩
      rw [← hN.out] at hO hNC hb ⊢
      go_wp2_with fail
      refine (implSort A N C (w.heap.size + 1) _ _ hO hb).mono ?_
      rintro e w2 ⟨rfl, hO2, m2⟩
      go_wp2_with fail
      refine (implCompact A N C (w.heap.size + 1) _ _ hO2 hb hNC).mono ?_
      rintro e w3 ⟨rfl, hO3, m3⟩
      obtain ⟨P, hP⟩ : ∃ P, Hid (P = (Lib.compact (sortL (ifUp zl r k))).length) := ⟨_, Lib.hid rfl⟩
      rw [← hP.out] at hO3 ⊢
      go_wp2_with fail
      go_ret
      exact ⟨A, P, C, rfl, hA, hO3.low (Nat.le_succ _), Mk.below0 ((hM'.andR m2 (.inl (Nat.le_succ _))).andR m3 (.inl (Nat.le_succ _)))⟩

end Go.Proofs.Ytkmofhpipcodbaa
