
/- ReservationIDs of both sides. -/
import Derived.Test.YtdbaecgbhadkbaaStepA
import Derived.Test.YtdbaecgbhadkbaaSortI
import Derived.Test.YtdbaecgbhadkbaaApp
import Derived.Test.YtdbaecgbhadkbaaAppR
import Derived.Test.YtdbaecgbhadkbaaWk
import Derived.Test.YtdbaecgbhadkbaaSReservation
import Derived.Test.YtdbaecgbhadkbaaInfo
import Derived.Test.YtdbaecgbhadkbaaRet
namespace Go.Proofs.Ytdbaecgbhadkbaa
open Go.ChangeShapes Go.WideShapes Go.ChangeAt Go.RowKit
set_option linter.unusedVariables false
/-- The ids of the first k. -/
def ridUp (zs : List TReservation) : Nat → List Int
  | 0 => []
  | k + 1 => ridUp zs k ++ [(zs.getD k default).id]
theorem ridUp_len (zs : List TReservation) : ∀ k, (ridUp zs k).length = k
  | 0 => rfl
  | k + 1 => by rw [ridUp, List.length_append, ridUp_len zs k]; rfl
theorem putR_ok {L : List Int} {x : Int} {k : Nat} (h : SL L) (hk : k ≤ L.length) (h1 : ∀ j, k ≤ j → j < L.length → x < L.getD j 0) (h2 : ∀ m, k = m + 1 → L.getD m 0 < x) : SL (L.take k ++ [x] ++ L.drop k) ∧ ∀ y, y ∈ L.take k ++ [x] ++ L.drop k ↔ y = x ∨ y ∈ L := by
  have hlt : ∀ j, j < k → L.getD j 0 < x := fun j hj => by
    obtain ⟨m, rfl⟩ : ∃ m, k = m + 1 := ⟨k - 1, by omega⟩
    have h3 := h2 m rfl
    by_cases e : j = m
    · subst e; exact h3
    · have h4 := List.pairwise_iff_getElem.1 h j m (by omega) (by omega) (by omega)
      rw [List.getD_eq_getElem?_getD, List.getElem?_eq_getElem (by omega)] at h3 ⊢
      exact Int.lt_trans h4 h3
  have hp := putI_ok (x := x) h hk hlt (fun hl => Int.le_of_lt (h1 k (Nat.le_refl _) hl))
  have e : putI L x k = L.take k ++ [x] ++ L.drop k := by
    unfold putI
    rw [if_neg]
    rintro ⟨a, b⟩
    have := h1 k (Nat.le_refl _) a
    omega
  rw [e] at hp
  exact hp
theorem own_mk0 {w w' : World} {lo n : Nat} {a : Option Addr} {zs : List Int} (h : Own .i64 w lo a n zs) (m : Mk0 w w') : Own .i64 w' lo a n zs :=
  ⟨h.1, fun hn => by
    obtain ⟨b, off, e, hl, hb, hc⟩ := h.2 hn
    exact ⟨b, off, e, hl, Nat.lt_of_lt_of_le hb m.size, fun i hi => ⟨m.cellAt (hc i hi).1, m.frozenAt (hc i hi).1 (hc i hi).2⟩⟩⟩
set_option maxRecDepth 100000 in
set_option maxHeartbeats 40000000 in
theorem specRids (a : Option Addr) (n c B : Nat) (zs : List TReservation) (w : World) (h : HasReservation w B a n zs) (hB : B ≤ w.heap.size) (hn : n ≤ 1048576) :
    Calls Try.prog 49 #[.slice a n c] w (OutR .i64 w (uniqL (ridUp zs n))) := by
  obtain ⟨i0, hi, hz0, hz1, hz2⟩ := info_parts infoI64
  have hby : i0.bytes ≤ 8 := by rw [hz2]; decide
  have M0 := Mk.alloc w (.cells #[] 3)
  have hA : (w.alloc (.cells #[] 3)).ownsRow w.heap.size 3 1 (.slice (some ⟨w.heap.size, 0, none⟩) 0 0) 0 (([] : List Int).map (.int .i64)) := own_lit w 3 [] (by simp)
  have hA0 := Lib.hid (ownsRow_own hA)
  clear hA
  go_enter Try.func49, Try.ntmps49
  go_wp2_with fail
  go_loopw [3, 4] (fun v i wr => ∃ k : Nat, k ≤ n ∧ i = .int .i64 k ∧ Mk0 w wr ∧ ∃ b3 o3 N C L, v = .slice (some ⟨b3, o3, none⟩) N C ∧ Own .i64 wr w.heap.size (some ⟨b3, o3, none⟩) N L ∧ N ≤ C ∧ N ≤ k ∧ Hid (SL L ∧ ∀ y, y ∈ L ↔ y ∈ ridUp zs k)) (fun _ i _ => n - (intOf i).toNat)
  case atStart => exact ⟨0, Nat.zero_le _, rfl, M0, w.heap.size, 0, 0, 0, [], rfl, hA0.out, Nat.le_refl _, Nat.le_refl _, Lib.hid ⟨List.Pairwise.nil, fun y => Iff.rfl⟩⟩
  case round =>
    clear hA0
    obtain ⟨k, hk, rfl, hM, b3, o3, N, C, L, rfl, hO, hNC, hNk, hS⟩ := hrel
    by_cases hlt : k < n
    · obtain ⟨b, off, x, rfl, hb, hx, d0, d1, d2, d3, d4⟩ := HasReservation.at _ _ _ _ _ _ (h.mk hM hB (.inr (Nat.le_refl _))) hlt
      clear d1 d2 d3 d4
      have i1 : (0 : Int) ≤ (k : Int) := by omega
      have i2 : (k : Int) < (n : Int) := by omega
      have HO := Lib.hid hO
      have HLn := Lib.hid hO.1
      clear hO
      have HN := Lib.hid (show ∀ y, (y = x.id ∨ y ∈ L) ↔ y ∈ ridUp zs (k + 1) from fun y => by rw [ridUp, ← hx.out, List.mem_append, List.mem_singleton, hS.out.2 y, or_comm])
      go_wp2_with fail
      rename World => wo
      go_loopw [5] (fun i wi => ∃ (kk : Nat) (z : Int), z = (kk : Int) ∧ kk ≤ N ∧ i = .int .i64 z ∧ Hid (∀ j, kk ≤ j → j < L.length → x.id < L.getD j 0) ∧ Mk0 wo wi) (fun i _ => (intOf i).toNat)
      case atStart => exact ⟨N, _, rfl, Nat.le_refl _, rfl, Lib.hid fun j h1 h2 => absurd h2 (by rw [HLn.out]; omega), Mk.refl _ _ _⟩
      case round =>
        obtain ⟨kk, z, hz, hkk, rfl, hG, hMi⟩ := hrel
        replace d0 := hMi.cellAt d0
        have hMw := hM.trans hMi
        have hOw := Lib.hid (own_mk0 HO.out hMi)
        rcases Nat.eq_zero_or_pos kk with e0 | e0
        · subst e0
          obtain rfl : z = 0 := hz
          have HR := Lib.hid (show SL ([] ++ L.take 0 ++ [x.id] ++ L.drop 0) ∧ ∀ y, y ∈ [] ++ L.take 0 ++ [x.id] ++ L.drop 0 ↔ y = x.id ∨ y ∈ L by rw [List.nil_append]; exact putR_ok hS.out.1 (by rw [HLn.out]; omega) hG.out (fun m e => by cases e))
          go_wp2_with fail
          refine wp_region_wk (fun w' => Mk0 wr w' ∧ w'.cell? ⟨b, off + k * 5, none⟩ = some (.int .i64 x.id)) (by kernel_rfl) (by kernel_rfl) (⟨Mk.drew1 _, d0⟩) ?_
          change Wk _ _ _ _ 15 0 _
          first | (refine Wk.skip (m := 14) (k := 0) rfl (by rfl) ?_) | (refine Wk.step (m := 14) (k := 0) (v := _) rfl (by rfl) (fun wv hS => by obtain ⟨s0, s1⟩ := hS; go_simp; try with_reducible rfl) ?_)
          try simp only [Act.put, List.getElem_toArray, List.getElem_cons_zero, List.setIfInBounds_toArray, List.set_cons_zero, List.set_cons_succ]
          first | (refine Wk.skip (m := 13) (k := 1) rfl (by rfl) ?_) | (refine Wk.step (m := 13) (k := 1) (v := _) rfl (by rfl) (fun wv hS => by obtain ⟨s0, s1⟩ := hS; go_simp; try with_reducible rfl) ?_)
          try simp only [Act.put, List.getElem_toArray, List.getElem_cons_succ, List.getElem_cons_zero, List.setIfInBounds_toArray, List.set_cons_zero, List.set_cons_succ]
          first | (refine Wk.skip (m := 12) (k := 2) rfl (by rfl) ?_) | (refine Wk.step (m := 12) (k := 2) (v := _) rfl (by rfl) (fun wv hS => by obtain ⟨s0, s1⟩ := hS; go_simp; try with_reducible rfl) ?_)
          try simp only [Act.put, List.getElem_toArray, List.getElem_cons_succ, List.getElem_cons_zero, List.setIfInBounds_toArray, List.set_cons_zero, List.set_cons_succ]
          first | (refine Wk.skip (m := 11) (k := 3) rfl (by rfl) ?_) | (refine Wk.step (m := 11) (k := 3) (v := _) rfl (by rfl) (fun wv hS => by obtain ⟨s0, s1⟩ := hS; go_simp; try with_reducible rfl) ?_)
          try simp only [Act.put, List.getElem_toArray, List.getElem_cons_succ, List.getElem_cons_zero, List.setIfInBounds_toArray, List.set_cons_zero, List.set_cons_succ]
          first | (refine Wk.skip (m := 10) (k := 4) rfl (by rfl) ?_) | (refine Wk.step (m := 10) (k := 4) (v := _) rfl (by rfl) (fun wv hS => by obtain ⟨s0, s1⟩ := hS; go_simp; try with_reducible rfl) ?_)
          try simp only [Act.put, List.getElem_toArray, List.getElem_cons_succ, List.getElem_cons_zero, List.setIfInBounds_toArray, List.set_cons_zero, List.set_cons_succ]
          first | (refine Wk.skip (m := 9) (k := 5) rfl (by rfl) ?_) | (refine Wk.step (m := 9) (k := 5) (v := _) rfl (by rfl) (fun wv hS => by obtain ⟨s0, s1⟩ := hS; go_simp; try with_reducible rfl) ?_)
          try simp only [Act.put, List.getElem_toArray, List.getElem_cons_succ, List.getElem_cons_zero, List.setIfInBounds_toArray, List.set_cons_zero, List.set_cons_succ]
          first | (refine Wk.skip (m := 8) (k := 6) rfl (by rfl) ?_) | (refine Wk.step (m := 8) (k := 6) (v := _) rfl (by rfl) (fun wv hS => by obtain ⟨s0, s1⟩ := hS; go_simp; try with_reducible rfl) ?_)
          try simp only [Act.put, List.getElem_toArray, List.getElem_cons_succ, List.getElem_cons_zero, List.setIfInBounds_toArray, List.set_cons_zero, List.set_cons_succ]
          first | (refine Wk.skip (m := 7) (k := 7) rfl (by rfl) ?_) | (refine Wk.step (m := 7) (k := 7) (v := _) rfl (by rfl) (fun wv hS => by obtain ⟨s0, s1⟩ := hS; go_simp; try with_reducible rfl) ?_)
          try simp only [Act.put, List.getElem_toArray, List.getElem_cons_succ, List.getElem_cons_zero, List.setIfInBounds_toArray, List.set_cons_zero, List.set_cons_succ]
          first | (refine Wk.skip (m := 6) (k := 8) rfl (by rfl) ?_) | (refine Wk.step (m := 6) (k := 8) (v := _) rfl (by rfl) (fun wv hS => by obtain ⟨s0, s1⟩ := hS; go_simp; try with_reducible rfl) ?_)
          try simp only [Act.put, List.getElem_toArray, List.getElem_cons_succ, List.getElem_cons_zero, List.setIfInBounds_toArray, List.set_cons_zero, List.set_cons_succ]
          first | (refine Wk.skip (m := 5) (k := 9) rfl (by rfl) ?_) | (refine Wk.step (m := 5) (k := 9) (v := _) rfl (by rfl) (fun wv hS => by obtain ⟨s0, s1⟩ := hS; go_simp; try with_reducible rfl) ?_)
          try simp only [Act.put, List.getElem_toArray, List.getElem_cons_succ, List.getElem_cons_zero, List.setIfInBounds_toArray, List.set_cons_zero, List.set_cons_succ]
          first | (refine Wk.skip (m := 4) (k := 10) rfl (by rfl) ?_) | (refine Wk.step (m := 4) (k := 10) (v := _) rfl (by rfl) (fun wv hS => by obtain ⟨s0, s1⟩ := hS; go_simp; try with_reducible rfl) ?_)
          try simp only [Act.put, List.getElem_toArray, List.getElem_cons_succ, List.getElem_cons_zero, List.setIfInBounds_toArray, List.set_cons_zero, List.set_cons_succ]
          first | (refine Wk.skip (m := 3) (k := 11) rfl (by rfl) ?_) | (refine Wk.step (m := 3) (k := 11) (v := _) rfl (by rfl) (fun wv hS => by obtain ⟨s0, s1⟩ := hS; go_simp; try with_reducible rfl) ?_)
          try simp only [Act.put, List.getElem_toArray, List.getElem_cons_succ, List.getElem_cons_zero, List.setIfInBounds_toArray, List.set_cons_zero, List.set_cons_succ]
          first | (refine Wk.skip (m := 2) (k := 12) rfl (by rfl) ?_) | (refine Wk.step (m := 2) (k := 12) (v := _) rfl (by rfl) (fun wv hS => by obtain ⟨s0, s1⟩ := hS; go_simp; try with_reducible rfl) ?_)
          try simp only [Act.put, List.getElem_toArray, List.getElem_cons_succ, List.getElem_cons_zero, List.setIfInBounds_toArray, List.set_cons_zero, List.set_cons_succ]
          first | (refine Wk.skip (m := 1) (k := 13) rfl (by rfl) ?_) | (refine Wk.step (m := 1) (k := 13) (v := _) rfl (by rfl) (fun wv hS => by obtain ⟨s0, s1⟩ := hS; go_simp; try with_reducible rfl) ?_)
          try simp only [Act.put, List.getElem_toArray, List.getElem_cons_succ, List.getElem_cons_zero, List.setIfInBounds_toArray, List.set_cons_zero, List.set_cons_succ]
          first | (refine Wk.skip (m := 0) (k := 14) rfl (by rfl) ?_) | (refine Wk.step (m := 0) (k := 14) (v := _) rfl (by rfl) (fun wv hS => by obtain ⟨s0, s1⟩ := hS; go_simp; try with_reducible rfl) ?_)
          try simp only [Act.put, List.getElem_toArray, List.getElem_cons_succ, List.getElem_cons_zero, List.setIfInBounds_toArray, List.set_cons_zero, List.set_cons_succ]
          refine Wk.done fun w6 h6 => ?_
          clear d0
          obtain ⟨m6, d0⟩ := h6
          go_wp2_with fail
          refine wp_region_wk (fun w' => Mk0 w6 w' ∧ w'.cell? ⟨b, off + k * 5, none⟩ = some (.int .i64 x.id)) (by kernel_rfl) (by kernel_rfl) (⟨Mk.drew1 _, d0⟩) ?_
          change Wk _ _ _ _ 15 0 _
          first | (refine Wk.skip (m := 14) (k := 0) rfl (by rfl) ?_) | (refine Wk.step (m := 14) (k := 0) (v := _) rfl (by rfl) (fun wv hS => by obtain ⟨s0, s1⟩ := hS; go_simp; try with_reducible rfl) ?_)
          try simp only [Act.put, List.getElem_toArray, List.getElem_cons_zero, List.setIfInBounds_toArray, List.set_cons_zero, List.set_cons_succ]
          first | (refine Wk.skip (m := 13) (k := 1) rfl (by rfl) ?_) | (refine Wk.step (m := 13) (k := 1) (v := _) rfl (by rfl) (fun wv hS => by obtain ⟨s0, s1⟩ := hS; go_simp; try with_reducible rfl) ?_)
          try simp only [Act.put, List.getElem_toArray, List.getElem_cons_succ, List.getElem_cons_zero, List.setIfInBounds_toArray, List.set_cons_zero, List.set_cons_succ]
          first | (refine Wk.skip (m := 12) (k := 2) rfl (by rfl) ?_) | (refine Wk.step (m := 12) (k := 2) (v := _) rfl (by rfl) (fun wv hS => by obtain ⟨s0, s1⟩ := hS; go_simp; try with_reducible rfl) ?_)
          try simp only [Act.put, List.getElem_toArray, List.getElem_cons_succ, List.getElem_cons_zero, List.setIfInBounds_toArray, List.set_cons_zero, List.set_cons_succ]
          first | (refine Wk.skip (m := 11) (k := 3) rfl (by rfl) ?_) | (refine Wk.step (m := 11) (k := 3) (v := _) rfl (by rfl) (fun wv hS => by obtain ⟨s0, s1⟩ := hS; go_simp; try with_reducible rfl) ?_)
          try simp only [Act.put, List.getElem_toArray, List.getElem_cons_succ, List.getElem_cons_zero, List.setIfInBounds_toArray, List.set_cons_zero, List.set_cons_succ]
          first | (refine Wk.skip (m := 10) (k := 4) rfl (by rfl) ?_) | (refine Wk.step (m := 10) (k := 4) (v := _) rfl (by rfl) (fun wv hS => by obtain ⟨s0, s1⟩ := hS; go_simp; try with_reducible rfl) ?_)
          try simp only [Act.put, List.getElem_toArray, List.getElem_cons_succ, List.getElem_cons_zero, List.setIfInBounds_toArray, List.set_cons_zero, List.set_cons_succ]
          first | (refine Wk.skip (m := 9) (k := 5) rfl (by rfl) ?_) | (refine Wk.step (m := 9) (k := 5) (v := _) rfl (by rfl) (fun wv hS => by obtain ⟨s0, s1⟩ := hS; go_simp; try with_reducible rfl) ?_)
          try simp only [Act.put, List.getElem_toArray, List.getElem_cons_succ, List.getElem_cons_zero, List.setIfInBounds_toArray, List.set_cons_zero, List.set_cons_succ]
          first | (refine Wk.skip (m := 8) (k := 6) rfl (by rfl) ?_) | (refine Wk.step (m := 8) (k := 6) (v := _) rfl (by rfl) (fun wv hS => by obtain ⟨s0, s1⟩ := hS; go_simp; try with_reducible rfl) ?_)
          try simp only [Act.put, List.getElem_toArray, List.getElem_cons_succ, List.getElem_cons_zero, List.setIfInBounds_toArray, List.set_cons_zero, List.set_cons_succ]
          first | (refine Wk.skip (m := 7) (k := 7) rfl (by rfl) ?_) | (refine Wk.step (m := 7) (k := 7) (v := _) rfl (by rfl) (fun wv hS => by obtain ⟨s0, s1⟩ := hS; go_simp; try with_reducible rfl) ?_)
          try simp only [Act.put, List.getElem_toArray, List.getElem_cons_succ, List.getElem_cons_zero, List.setIfInBounds_toArray, List.set_cons_zero, List.set_cons_succ]
          first | (refine Wk.skip (m := 6) (k := 8) rfl (by rfl) ?_) | (refine Wk.step (m := 6) (k := 8) (v := _) rfl (by rfl) (fun wv hS => by obtain ⟨s0, s1⟩ := hS; go_simp; try with_reducible rfl) ?_)
          try simp only [Act.put, List.getElem_toArray, List.getElem_cons_succ, List.getElem_cons_zero, List.setIfInBounds_toArray, List.set_cons_zero, List.set_cons_succ]
          first | (refine Wk.skip (m := 5) (k := 9) rfl (by rfl) ?_) | (refine Wk.step (m := 5) (k := 9) (v := _) rfl (by rfl) (fun wv hS => by obtain ⟨s0, s1⟩ := hS; go_simp; try with_reducible rfl) ?_)
          try simp only [Act.put, List.getElem_toArray, List.getElem_cons_succ, List.getElem_cons_zero, List.setIfInBounds_toArray, List.set_cons_zero, List.set_cons_succ]
          first | (refine Wk.skip (m := 4) (k := 10) rfl (by rfl) ?_) | (refine Wk.step (m := 4) (k := 10) (v := _) rfl (by rfl) (fun wv hS => by obtain ⟨s0, s1⟩ := hS; go_simp; try with_reducible rfl) ?_)
          try simp only [Act.put, List.getElem_toArray, List.getElem_cons_succ, List.getElem_cons_zero, List.setIfInBounds_toArray, List.set_cons_zero, List.set_cons_succ]
          first | (refine Wk.skip (m := 3) (k := 11) rfl (by rfl) ?_) | (refine Wk.step (m := 3) (k := 11) (v := _) rfl (by rfl) (fun wv hS => by obtain ⟨s0, s1⟩ := hS; go_simp; try with_reducible rfl) ?_)
          try simp only [Act.put, List.getElem_toArray, List.getElem_cons_succ, List.getElem_cons_zero, List.setIfInBounds_toArray, List.set_cons_zero, List.set_cons_succ]
          first | (refine Wk.skip (m := 2) (k := 12) rfl (by rfl) ?_) | (refine Wk.step (m := 2) (k := 12) (v := _) rfl (by rfl) (fun wv hS => by obtain ⟨s0, s1⟩ := hS; go_simp; try with_reducible rfl) ?_)
          try simp only [Act.put, List.getElem_toArray, List.getElem_cons_succ, List.getElem_cons_zero, List.setIfInBounds_toArray, List.set_cons_zero, List.set_cons_succ]
          first | (refine Wk.skip (m := 1) (k := 13) rfl (by rfl) ?_) | (refine Wk.step (m := 1) (k := 13) (v := _) rfl (by rfl) (fun wv hS => by obtain ⟨s0, s1⟩ := hS; go_simp; try with_reducible rfl) ?_)
          try simp only [Act.put, List.getElem_toArray, List.getElem_cons_succ, List.getElem_cons_zero, List.setIfInBounds_toArray, List.set_cons_zero, List.set_cons_succ]
          first | (refine Wk.skip (m := 0) (k := 14) rfl (by rfl) ?_) | (refine Wk.step (m := 0) (k := 14) (v := _) rfl (by rfl) (fun wv hS => by obtain ⟨s0, s1⟩ := hS; go_simp; try with_reducible rfl) ?_)
          try simp only [Act.put, List.getElem_toArray, List.getElem_cons_succ, List.getElem_cons_zero, List.setIfInBounds_toArray, List.set_cons_zero, List.set_cons_succ]
          refine Wk.done fun w8 h8 => ?_
          clear d0
          obtain ⟨m8, d0⟩ := h8
          have M08 := (hMw.trans m6).trans m8
          have hO8 := own_mk0 hOw.out (m6.trans m8)
          have hh := hO8.has
          have HH := Lib.hid (fun (w' : World) (m_ : Mk0 w8 w') => show Has .i64 w' w8.heap.size (some ⟨b3, o3, none⟩) N L from hh.keep fun p hp => by obtain ⟨pb, po, ps⟩ := p; exact World.cell?_of_block (w := w8) (m_.block pb hp (.inr (Nat.zero_le _))))
          have HX := Lib.hid (fun (w' : World) (m_ : Mk0 w8 w') => m_.cellAt d0)
          have HT := Lib.hid (fun (w' : World) (m_ : Mk0 w8 w') => show Has .i64 w' w'.heap.size (some ⟨b3, o3, none⟩) 0 (L.take 0) from ⟨by rw [List.length_take, HLn.out]; omega, fun h0 => by obtain ⟨b', o', e, hb, hc⟩ := (HH.out w' m_).2 (by omega); exact ⟨b', o', e, Nat.lt_of_lt_of_le hb m_.size, fun i hi => by first | exact absurd hi (Nat.not_lt_zero _) | (rw [hc i (by omega)]; simp [List.getD_eq_getElem?_getD, hi])⟩⟩)
          clear hO8 hh d0
          have HD := Lib.hid (fun (w' : World) (m : Mk0 w8 w') => show Has .i64 w' w'.heap.size (some ⟨b3, o3, none⟩) N (L.drop 0) from (HH.out w' m).mono m.size)
          go_wp2_with fail
          refine wp_region_any (by kernel_rfl) ?_
          change wpAny _ _ _ _ _ _ _ (World.drew w8)
          have hM0 : Mk0 w8 w8.drew := Mk.drew1 w8
          generalize w8.drew = u0 at *
          refine wpAny_take (i := 1) (v := _) rfl (by kernel_rfl) (by kernel_rfl) (by kernel_rfl) (fun _ _ _ h => h) (Or.inl ⟨by rfl, fun w => by go_simp; try with_reducible rfl⟩) ?_
          try simp only [Act.put, List.getElem_toArray, List.getElem_cons_succ, List.getElem_cons_zero, List.setIfInBounds_toArray, List.set_cons_zero, List.set_cons_succ]
          refine wpAny_take (i := 2) (v := _) rfl (by kernel_rfl) (by kernel_rfl) (by kernel_rfl) (fun _ _ _ h => h) (Or.inl ⟨by rfl, fun w => by go_simp; try with_reducible rfl⟩) ?_
          try simp only [Act.put, List.getElem_toArray, List.getElem_cons_succ, List.getElem_cons_zero, List.setIfInBounds_toArray, List.set_cons_zero, List.set_cons_succ]
          refine wpAny_take (i := 3) (v := _) rfl (by kernel_rfl) (by kernel_rfl) (by kernel_rfl) (fun _ _ _ h => h) (Or.inl ⟨by rfl, fun w => by go_simp; try with_reducible rfl⟩) ?_
          try simp only [Act.put, List.getElem_toArray, List.getElem_cons_succ, List.getElem_cons_zero, List.setIfInBounds_toArray, List.set_cons_zero, List.set_cons_succ]
          refine wpAny_take (i := 5) (v := _) rfl (by kernel_rfl) (by kernel_rfl) (by kernel_rfl) (fun _ _ _ h => h) (Or.inl ⟨by rfl, fun w => by go_simp; try with_reducible rfl⟩) ?_
          try simp only [Act.put, List.getElem_toArray, List.getElem_cons_succ, List.getElem_cons_zero, List.setIfInBounds_toArray, List.set_cons_zero, List.set_cons_succ]
          refine wpAny_take (i := 6) (v := _) rfl (by kernel_rfl) (by kernel_rfl) (by kernel_rfl) (fun _ _ _ h => h) (Or.inl ⟨by rfl, fun w => by go_simp; try with_reducible rfl⟩) ?_
          try simp only [Act.put, List.getElem_toArray, List.getElem_cons_succ, List.getElem_cons_zero, List.setIfInBounds_toArray, List.set_cons_zero, List.set_cons_succ]
          refine wpAny_take (i := 7) (v := _) rfl (by kernel_rfl) (by kernel_rfl) (by kernel_rfl) (fun _ _ _ h => h) (Or.inl ⟨by rfl, fun w => by go_simp; try with_reducible rfl⟩) ?_
          try simp only [Act.put, List.getElem_toArray, List.getElem_cons_succ, List.getElem_cons_zero, List.setIfInBounds_toArray, List.set_cons_zero, List.set_cons_succ]
          refine wpAny_take (i := 8) (v := _) rfl (by kernel_rfl) (by kernel_rfl) (by kernel_rfl) (fun _ _ _ h => h) (Or.inl ⟨by rfl, fun w => by go_simp; try with_reducible rfl⟩) ?_
          try simp only [Act.put, List.getElem_toArray, List.getElem_cons_succ, List.getElem_cons_zero, List.setIfInBounds_toArray, List.set_cons_zero, List.set_cons_succ]
          refine wpAny_take (i := 12) (v := _) rfl (by kernel_rfl) (by kernel_rfl) (by kernel_rfl) (fun _ _ _ h => h) (Or.inl ⟨by rfl, fun w => by go_simp; try with_reducible rfl⟩) ?_
          try simp only [Act.put, List.getElem_toArray, List.getElem_cons_succ, List.getElem_cons_zero, List.setIfInBounds_toArray, List.set_cons_zero, List.set_cons_succ]
          refine wpAny_take (i := 13) (v := _) rfl (by kernel_rfl) (by kernel_rfl) (by kernel_rfl) (fun _ _ _ h => h) (Or.inl ⟨by rfl, fun w => by go_simp; try with_reducible rfl⟩) ?_
          try simp only [Act.put, List.getElem_toArray, List.getElem_cons_succ, List.getElem_cons_zero, List.setIfInBounds_toArray, List.set_cons_zero, List.set_cons_succ]
          refine wpAny_take (i := 14) (v := _) rfl (by kernel_rfl) (by kernel_rfl) (by kernel_rfl) (fun _ _ _ h => h) (Or.inl ⟨by rfl, fun w => by go_simp; try with_reducible rfl⟩) ?_
          try simp only [Act.put, List.getElem_toArray, List.getElem_cons_succ, List.getElem_cons_zero, List.setIfInBounds_toArray, List.set_cons_zero, List.set_cons_succ]
          refine wpAny_ready (rs := [0, 9]) (by kernel_rfl) (by simp) ?_
          refine (AllReady.cons rfl (fun K hK => ?_) (AllReady.cons rfl (fun K hK => ?_) AllReady.nil))
          · go_simp
            refine hK _ _ ?_
            clear hK K
            try simp only [Act.put, List.getElem_toArray, List.getElem_cons_succ, List.getElem_cons_zero, List.setIfInBounds_toArray, List.set_cons_zero, List.set_cons_succ]
            have hM1 : Mk0 w8 (u0.alloc (.cells #[] 3)) := hM0.new _
            have hzz1 : u0.heap.size < (u0.alloc (.cells #[] 3)).heap.size := by rw [World.size_alloc]; omega
            have hA : (u0.alloc (.cells #[] 3)).ownsRow w8.heap.size 3 1 (.slice (some ⟨u0.heap.size, 0, none⟩) 0 0) 0 (([] : List Int).map (.int .i64)) := own_lowR (own_lit u0 3 [] (by simp)) hM0.size
            generalize u0.alloc (.cells #[] 3) = u1 at *
            refine wpAny_ready (rs := [4, 9]) (by kernel_rfl) (by simp) ?_
            refine (AllReady.cons rfl (fun K hK => ?_) (AllReady.cons rfl (fun K hK => ?_) AllReady.nil))
            · refine step_app (k := .i64) (by rfl) (.tmp 47) (.tmp 50) 66 (by rfl) w8.heap.size 3 i0 Try.underlying66 hi hz0 hz1 hby _ [] 0 (by rfl) hA ⟨b3, o3, none⟩ 0 C (L.take 0) (by rfl) (HT.out _ hM1) (by omega) hM1.size ?_
              intro v2 u2 ho2 hg2 hat2
              refine hK _ _ ?_
              clear hK K
              try simp only [Act.put, List.getElem_toArray, List.getElem_cons_succ, List.getElem_cons_zero, List.setIfInBounds_toArray, List.set_cons_zero, List.set_cons_succ]
              have hM2 := mk_grew hM1 hg2 (fun g e => (hA.lt g e).1)
              clear hA
              have hA := ho2
              have hzz2 := hg2.size
              refine wpAny_ready (rs := [9]) (by kernel_rfl) (by simp) ?_
              refine (AllReady.cons rfl (fun K hK => ?_) AllReady.nil)
              have hxc := HX.out _ hM2
              go_simp
              refine hK _ _ ?_
              clear hK K
              try simp only [Act.put, List.getElem_toArray, List.getElem_cons_succ, List.getElem_cons_zero, List.setIfInBounds_toArray, List.set_cons_zero, List.set_cons_succ]
              clear hxc
              refine wpAny_ready (rs := [10]) (by kernel_rfl) (by simp) ?_
              refine (AllReady.cons rfl (fun K hK => ?_) AllReady.nil)
              go_simp
              refine hK _ _ ?_
              clear hK K
              try simp only [Act.put, List.getElem_toArray, List.getElem_cons_succ, List.getElem_cons_zero, List.setIfInBounds_toArray, List.set_cons_zero, List.set_cons_succ]
              have hM3 : Mk0 w8 (u2.alloc (.cells #[.int .i64 x.id] 3)) := hM2.new _
              have hzz3 : u2.heap.size < (u2.alloc (.cells #[.int .i64 x.id] 3)).heap.size := by rw [World.size_alloc]; omega
              have cN : (u2.alloc (.cells #[.int .i64 x.id] 3)).cell? ⟨u2.heap.size, 0, none⟩ = some (.int .i64 x.id) := by simp [go_sem]
              replace hA := hA.alloc (.cells #[.int .i64 x.id] 3)
              generalize u2.alloc (.cells #[.int .i64 x.id] 3) = u3 at *
              refine wpAny_ready (rs := [11]) (by kernel_rfl) (by simp) ?_
              refine (AllReady.cons rfl (fun K hK => ?_) AllReady.nil)
              refine step_app (k := .i64) (by rfl) (.tmp 51) (.tmp 57) 66 (by rfl) w8.heap.size 3 i0 Try.underlying66 hi hz0 hz1 hby _ ([] ++ L.take 0) (0 + 0) (by rfl) hA ⟨u2.heap.size, 0, none⟩ 1 1 [x.id] (by rfl) (has_one cN (World.block_lt_of_cell? _ _ cN)) (by omega) hM3.size ?_
              intro v4 u4 ho4 hg4 hat4
              refine hK _ _ ?_
              clear hK K
              try simp only [Act.put, List.getElem_toArray, List.getElem_cons_succ, List.getElem_cons_zero, List.setIfInBounds_toArray, List.set_cons_zero, List.set_cons_succ]
              have hM4 := mk_grew hM3 hg4 (fun g e => (hA.lt g e).1)
              refine wpAny_ready (rs := [15]) (by kernel_rfl) (by simp) ?_
              refine (AllReady.cons rfl (fun K hK => ?_) AllReady.nil)
              refine step_app (k := .i64) (by rfl) (.tmp 58) (.tmp 61) 66 (by rfl) w8.heap.size 3 i0 Try.underlying66 hi hz0 hz1 hby _ ([] ++ L.take 0 ++ [x.id]) (0 + 0 + 1) (by rfl) ho4 ⟨b3, o3, none⟩ N C (L.drop 0) (by rfl) (HD.out _ hM4) (by omega) hM4.size ?_
              intro v5 u5 ho5 hg5 hat5
              refine hK _ _ ?_
              clear hK K
              try simp only [Act.put, List.getElem_toArray, List.getElem_cons_succ, List.getElem_cons_zero, List.setIfInBounds_toArray, List.set_cons_zero, List.set_cons_succ]
              have hM5 := mk_grew hM4 hg5 (fun g e => (ho4.lt g e).1)
              refine wpAny_ready (rs := [16]) (by kernel_rfl) (by simp) ?_
              refine (AllReady.cons rfl (fun K hK => ?_) AllReady.nil)
              go_simp
              refine hK _ _ ?_
              clear hK K
              try simp only [Act.put, List.getElem_toArray, List.getElem_cons_succ, List.getElem_cons_zero, List.setIfInBounds_toArray, List.set_cons_zero, List.set_cons_succ]
              refine wpAny_done (by kernel_rfl) ?_ _
              obtain ⟨A3, C3, rfl, hA3, hN3⟩ := ownsRow_sliceR2 ho5
              refine ‹∀ (a : Act) (w : World), _ → _› _ _ ?_
              have hw3 := (ownsRow_own ho5)
              obtain ⟨b4, o4, e4, hl4, hb4, hc4⟩ := hw3.2 (by omega)
              subst e4
              clear hl4 hb4 hc4
              have HW := Lib.hid hw3
              clear hw3 hA3 ho5
              go_wp2_with fail
              go_roundw
              case rel => exact ⟨k + 1, by omega, by go_num, M08.trans hM5, b4, o4, _, C3, _, rfl, HW.out.low M08.size, hN3, by omega, Lib.hid ⟨HR.out.1, fun y => (HR.out.2 y).trans (HN.out y)⟩⟩
              case measure => simp [intOf]; omega
            · have hxc := HX.out _ hM1
              go_simp
              refine hK _ _ ?_
              clear hK K
              try simp only [Act.put, List.getElem_toArray, List.getElem_cons_succ, List.getElem_cons_zero, List.setIfInBounds_toArray, List.set_cons_zero, List.set_cons_succ]
              clear hxc
              refine wpAny_ready (rs := [4, 10]) (by kernel_rfl) (by simp) ?_
              refine (AllReady.cons rfl (fun K hK => ?_) (AllReady.cons rfl (fun K hK => ?_) AllReady.nil))
              · refine step_app (k := .i64) (by rfl) (.tmp 47) (.tmp 50) 66 (by rfl) w8.heap.size 3 i0 Try.underlying66 hi hz0 hz1 hby _ [] 0 (by rfl) hA ⟨b3, o3, none⟩ 0 C (L.take 0) (by rfl) (HT.out _ hM1) (by omega) hM1.size ?_
                intro v2 u2 ho2 hg2 hat2
                refine hK _ _ ?_
                clear hK K
                try simp only [Act.put, List.getElem_toArray, List.getElem_cons_succ, List.getElem_cons_zero, List.setIfInBounds_toArray, List.set_cons_zero, List.set_cons_succ]
                have hM2 := mk_grew hM1 hg2 (fun g e => (hA.lt g e).1)
                clear hA
                have hA := ho2
                have hzz2 := hg2.size
                refine wpAny_ready (rs := [10]) (by kernel_rfl) (by simp) ?_
                refine (AllReady.cons rfl (fun K hK => ?_) AllReady.nil)
                go_simp
                refine hK _ _ ?_
                clear hK K
                try simp only [Act.put, List.getElem_toArray, List.getElem_cons_succ, List.getElem_cons_zero, List.setIfInBounds_toArray, List.set_cons_zero, List.set_cons_succ]
                have hM3 : Mk0 w8 (u2.alloc (.cells #[.int .i64 x.id] 3)) := hM2.new _
                have hzz3 : u2.heap.size < (u2.alloc (.cells #[.int .i64 x.id] 3)).heap.size := by rw [World.size_alloc]; omega
                have cN : (u2.alloc (.cells #[.int .i64 x.id] 3)).cell? ⟨u2.heap.size, 0, none⟩ = some (.int .i64 x.id) := by simp [go_sem]
                replace hA := hA.alloc (.cells #[.int .i64 x.id] 3)
                generalize u2.alloc (.cells #[.int .i64 x.id] 3) = u3 at *
                refine wpAny_ready (rs := [11]) (by kernel_rfl) (by simp) ?_
                refine (AllReady.cons rfl (fun K hK => ?_) AllReady.nil)
                refine step_app (k := .i64) (by rfl) (.tmp 51) (.tmp 57) 66 (by rfl) w8.heap.size 3 i0 Try.underlying66 hi hz0 hz1 hby _ ([] ++ L.take 0) (0 + 0) (by rfl) hA ⟨u2.heap.size, 0, none⟩ 1 1 [x.id] (by rfl) (has_one cN (World.block_lt_of_cell? _ _ cN)) (by omega) hM3.size ?_
                intro v4 u4 ho4 hg4 hat4
                refine hK _ _ ?_
                clear hK K
                try simp only [Act.put, List.getElem_toArray, List.getElem_cons_succ, List.getElem_cons_zero, List.setIfInBounds_toArray, List.set_cons_zero, List.set_cons_succ]
                have hM4 := mk_grew hM3 hg4 (fun g e => (hA.lt g e).1)
                refine wpAny_ready (rs := [15]) (by kernel_rfl) (by simp) ?_
                refine (AllReady.cons rfl (fun K hK => ?_) AllReady.nil)
                refine step_app (k := .i64) (by rfl) (.tmp 58) (.tmp 61) 66 (by rfl) w8.heap.size 3 i0 Try.underlying66 hi hz0 hz1 hby _ ([] ++ L.take 0 ++ [x.id]) (0 + 0 + 1) (by rfl) ho4 ⟨b3, o3, none⟩ N C (L.drop 0) (by rfl) (HD.out _ hM4) (by omega) hM4.size ?_
                intro v5 u5 ho5 hg5 hat5
                refine hK _ _ ?_
                clear hK K
                try simp only [Act.put, List.getElem_toArray, List.getElem_cons_succ, List.getElem_cons_zero, List.setIfInBounds_toArray, List.set_cons_zero, List.set_cons_succ]
                have hM5 := mk_grew hM4 hg5 (fun g e => (ho4.lt g e).1)
                refine wpAny_ready (rs := [16]) (by kernel_rfl) (by simp) ?_
                refine (AllReady.cons rfl (fun K hK => ?_) AllReady.nil)
                go_simp
                refine hK _ _ ?_
                clear hK K
                try simp only [Act.put, List.getElem_toArray, List.getElem_cons_succ, List.getElem_cons_zero, List.setIfInBounds_toArray, List.set_cons_zero, List.set_cons_succ]
                refine wpAny_done (by kernel_rfl) ?_ _
                obtain ⟨A3, C3, rfl, hA3, hN3⟩ := ownsRow_sliceR2 ho5
                refine ‹∀ (a : Act) (w : World), _ → _› _ _ ?_
                have hw3 := (ownsRow_own ho5)
                obtain ⟨b4, o4, e4, hl4, hb4, hc4⟩ := hw3.2 (by omega)
                subst e4
                clear hl4 hb4 hc4
                have HW := Lib.hid hw3
                clear hw3 hA3 ho5
                go_wp2_with fail
                go_roundw
                case rel => exact ⟨k + 1, by omega, by go_num, M08.trans hM5, b4, o4, _, C3, _, rfl, HW.out.low M08.size, hN3, by omega, Lib.hid ⟨HR.out.1, fun y => (HR.out.2 y).trans (HN.out y)⟩⟩
                case measure => simp [intOf]; omega
              · go_simp
                refine hK _ _ ?_
                clear hK K
                try simp only [Act.put, List.getElem_toArray, List.getElem_cons_succ, List.getElem_cons_zero, List.setIfInBounds_toArray, List.set_cons_zero, List.set_cons_succ]
                have hM2 : Mk0 w8 (u1.alloc (.cells #[.int .i64 x.id] 3)) := hM1.new _
                have hzz2 : u1.heap.size < (u1.alloc (.cells #[.int .i64 x.id] 3)).heap.size := by rw [World.size_alloc]; omega
                have cN : (u1.alloc (.cells #[.int .i64 x.id] 3)).cell? ⟨u1.heap.size, 0, none⟩ = some (.int .i64 x.id) := by simp [go_sem]
                replace hA := hA.alloc (.cells #[.int .i64 x.id] 3)
                generalize u1.alloc (.cells #[.int .i64 x.id] 3) = u2 at *
                refine wpAny_ready (rs := [4]) (by kernel_rfl) (by simp) ?_
                refine (AllReady.cons rfl (fun K hK => ?_) AllReady.nil)
                refine step_app (k := .i64) (by rfl) (.tmp 47) (.tmp 50) 66 (by rfl) w8.heap.size 3 i0 Try.underlying66 hi hz0 hz1 hby _ [] 0 (by rfl) hA ⟨b3, o3, none⟩ 0 C (L.take 0) (by rfl) (HT.out _ hM2) (by omega) hM2.size ?_
                intro v3 u3 ho3 hg3 hat3
                refine hK _ _ ?_
                clear hK K
                try simp only [Act.put, List.getElem_toArray, List.getElem_cons_succ, List.getElem_cons_zero, List.setIfInBounds_toArray, List.set_cons_zero, List.set_cons_succ]
                have hM3 := mk_grew hM2 hg3 (fun g e => (hA.lt g e).1)
                replace cN := cell_grew hg3 cN (by simp [Value.ownBlock]; omega)
                clear hA
                have hA := ho3
                have hzz3 := hg3.size
                refine wpAny_ready (rs := [11]) (by kernel_rfl) (by simp) ?_
                refine (AllReady.cons rfl (fun K hK => ?_) AllReady.nil)
                refine step_app (k := .i64) (by rfl) (.tmp 51) (.tmp 57) 66 (by rfl) w8.heap.size 3 i0 Try.underlying66 hi hz0 hz1 hby _ ([] ++ L.take 0) (0 + 0) (by rfl) hA ⟨u1.heap.size, 0, none⟩ 1 1 [x.id] (by rfl) (has_one cN (World.block_lt_of_cell? _ _ cN)) (by omega) hM3.size ?_
                intro v4 u4 ho4 hg4 hat4
                refine hK _ _ ?_
                clear hK K
                try simp only [Act.put, List.getElem_toArray, List.getElem_cons_succ, List.getElem_cons_zero, List.setIfInBounds_toArray, List.set_cons_zero, List.set_cons_succ]
                have hM4 := mk_grew hM3 hg4 (fun g e => (hA.lt g e).1)
                refine wpAny_ready (rs := [15]) (by kernel_rfl) (by simp) ?_
                refine (AllReady.cons rfl (fun K hK => ?_) AllReady.nil)
                refine step_app (k := .i64) (by rfl) (.tmp 58) (.tmp 61) 66 (by rfl) w8.heap.size 3 i0 Try.underlying66 hi hz0 hz1 hby _ ([] ++ L.take 0 ++ [x.id]) (0 + 0 + 1) (by rfl) ho4 ⟨b3, o3, none⟩ N C (L.drop 0) (by rfl) (HD.out _ hM4) (by omega) hM4.size ?_
                intro v5 u5 ho5 hg5 hat5
                refine hK _ _ ?_
                clear hK K
                try simp only [Act.put, List.getElem_toArray, List.getElem_cons_succ, List.getElem_cons_zero, List.setIfInBounds_toArray, List.set_cons_zero, List.set_cons_succ]
                have hM5 := mk_grew hM4 hg5 (fun g e => (ho4.lt g e).1)
                refine wpAny_ready (rs := [16]) (by kernel_rfl) (by simp) ?_
                refine (AllReady.cons rfl (fun K hK => ?_) AllReady.nil)
                go_simp
                refine hK _ _ ?_
                clear hK K
                try simp only [Act.put, List.getElem_toArray, List.getElem_cons_succ, List.getElem_cons_zero, List.setIfInBounds_toArray, List.set_cons_zero, List.set_cons_succ]
                refine wpAny_done (by kernel_rfl) ?_ _
                obtain ⟨A3, C3, rfl, hA3, hN3⟩ := ownsRow_sliceR2 ho5
                refine ‹∀ (a : Act) (w : World), _ → _› _ _ ?_
                have hw3 := (ownsRow_own ho5)
                obtain ⟨b4, o4, e4, hl4, hb4, hc4⟩ := hw3.2 (by omega)
                subst e4
                clear hl4 hb4 hc4
                have HW := Lib.hid hw3
                clear hw3 hA3 ho5
                go_wp2_with fail
                go_roundw
                case rel => exact ⟨k + 1, by omega, by go_num, M08.trans hM5, b4, o4, _, C3, _, rfl, HW.out.low M08.size, hN3, by omega, Lib.hid ⟨HR.out.1, fun y => (HR.out.2 y).trans (HN.out y)⟩⟩
                case measure => simp [intOf]; omega
          · have hxc := HX.out _ hM0
            go_simp
            refine hK _ _ ?_
            clear hK K
            try simp only [Act.put, List.getElem_toArray, List.getElem_cons_succ, List.getElem_cons_zero, List.setIfInBounds_toArray, List.set_cons_zero, List.set_cons_succ]
            clear hxc
            refine wpAny_ready (rs := [0, 10]) (by kernel_rfl) (by simp) ?_
            refine (AllReady.cons rfl (fun K hK => ?_) (AllReady.cons rfl (fun K hK => ?_) AllReady.nil))
            · go_simp
              refine hK _ _ ?_
              clear hK K
              try simp only [Act.put, List.getElem_toArray, List.getElem_cons_succ, List.getElem_cons_zero, List.setIfInBounds_toArray, List.set_cons_zero, List.set_cons_succ]
              have hM1 : Mk0 w8 (u0.alloc (.cells #[] 3)) := hM0.new _
              have hzz1 : u0.heap.size < (u0.alloc (.cells #[] 3)).heap.size := by rw [World.size_alloc]; omega
              have hA : (u0.alloc (.cells #[] 3)).ownsRow w8.heap.size 3 1 (.slice (some ⟨u0.heap.size, 0, none⟩) 0 0) 0 (([] : List Int).map (.int .i64)) := own_lowR (own_lit u0 3 [] (by simp)) hM0.size
              generalize u0.alloc (.cells #[] 3) = u1 at *
              refine wpAny_ready (rs := [4, 10]) (by kernel_rfl) (by simp) ?_
              refine (AllReady.cons rfl (fun K hK => ?_) (AllReady.cons rfl (fun K hK => ?_) AllReady.nil))
              · refine step_app (k := .i64) (by rfl) (.tmp 47) (.tmp 50) 66 (by rfl) w8.heap.size 3 i0 Try.underlying66 hi hz0 hz1 hby _ [] 0 (by rfl) hA ⟨b3, o3, none⟩ 0 C (L.take 0) (by rfl) (HT.out _ hM1) (by omega) hM1.size ?_
                intro v2 u2 ho2 hg2 hat2
                refine hK _ _ ?_
                clear hK K
                try simp only [Act.put, List.getElem_toArray, List.getElem_cons_succ, List.getElem_cons_zero, List.setIfInBounds_toArray, List.set_cons_zero, List.set_cons_succ]
                have hM2 := mk_grew hM1 hg2 (fun g e => (hA.lt g e).1)
                clear hA
                have hA := ho2
                have hzz2 := hg2.size
                refine wpAny_ready (rs := [10]) (by kernel_rfl) (by simp) ?_
                refine (AllReady.cons rfl (fun K hK => ?_) AllReady.nil)
                go_simp
                refine hK _ _ ?_
                clear hK K
                try simp only [Act.put, List.getElem_toArray, List.getElem_cons_succ, List.getElem_cons_zero, List.setIfInBounds_toArray, List.set_cons_zero, List.set_cons_succ]
                have hM3 : Mk0 w8 (u2.alloc (.cells #[.int .i64 x.id] 3)) := hM2.new _
                have hzz3 : u2.heap.size < (u2.alloc (.cells #[.int .i64 x.id] 3)).heap.size := by rw [World.size_alloc]; omega
                have cN : (u2.alloc (.cells #[.int .i64 x.id] 3)).cell? ⟨u2.heap.size, 0, none⟩ = some (.int .i64 x.id) := by simp [go_sem]
                replace hA := hA.alloc (.cells #[.int .i64 x.id] 3)
                generalize u2.alloc (.cells #[.int .i64 x.id] 3) = u3 at *
                refine wpAny_ready (rs := [11]) (by kernel_rfl) (by simp) ?_
                refine (AllReady.cons rfl (fun K hK => ?_) AllReady.nil)
                refine step_app (k := .i64) (by rfl) (.tmp 51) (.tmp 57) 66 (by rfl) w8.heap.size 3 i0 Try.underlying66 hi hz0 hz1 hby _ ([] ++ L.take 0) (0 + 0) (by rfl) hA ⟨u2.heap.size, 0, none⟩ 1 1 [x.id] (by rfl) (has_one cN (World.block_lt_of_cell? _ _ cN)) (by omega) hM3.size ?_
                intro v4 u4 ho4 hg4 hat4
                refine hK _ _ ?_
                clear hK K
                try simp only [Act.put, List.getElem_toArray, List.getElem_cons_succ, List.getElem_cons_zero, List.setIfInBounds_toArray, List.set_cons_zero, List.set_cons_succ]
                have hM4 := mk_grew hM3 hg4 (fun g e => (hA.lt g e).1)
                refine wpAny_ready (rs := [15]) (by kernel_rfl) (by simp) ?_
                refine (AllReady.cons rfl (fun K hK => ?_) AllReady.nil)
                refine step_app (k := .i64) (by rfl) (.tmp 58) (.tmp 61) 66 (by rfl) w8.heap.size 3 i0 Try.underlying66 hi hz0 hz1 hby _ ([] ++ L.take 0 ++ [x.id]) (0 + 0 + 1) (by rfl) ho4 ⟨b3, o3, none⟩ N C (L.drop 0) (by rfl) (HD.out _ hM4) (by omega) hM4.size ?_
                intro v5 u5 ho5 hg5 hat5
                refine hK _ _ ?_
                clear hK K
                try simp only [Act.put, List.getElem_toArray, List.getElem_cons_succ, List.getElem_cons_zero, List.setIfInBounds_toArray, List.set_cons_zero, List.set_cons_succ]
                have hM5 := mk_grew hM4 hg5 (fun g e => (ho4.lt g e).1)
                refine wpAny_ready (rs := [16]) (by kernel_rfl) (by simp) ?_
                refine (AllReady.cons rfl (fun K hK => ?_) AllReady.nil)
                go_simp
                refine hK _ _ ?_
                clear hK K
                try simp only [Act.put, List.getElem_toArray, List.getElem_cons_succ, List.getElem_cons_zero, List.setIfInBounds_toArray, List.set_cons_zero, List.set_cons_succ]
                refine wpAny_done (by kernel_rfl) ?_ _
                obtain ⟨A3, C3, rfl, hA3, hN3⟩ := ownsRow_sliceR2 ho5
                refine ‹∀ (a : Act) (w : World), _ → _› _ _ ?_
                have hw3 := (ownsRow_own ho5)
                obtain ⟨b4, o4, e4, hl4, hb4, hc4⟩ := hw3.2 (by omega)
                subst e4
                clear hl4 hb4 hc4
                have HW := Lib.hid hw3
                clear hw3 hA3 ho5
                go_wp2_with fail
                go_roundw
                case rel => exact ⟨k + 1, by omega, by go_num, M08.trans hM5, b4, o4, _, C3, _, rfl, HW.out.low M08.size, hN3, by omega, Lib.hid ⟨HR.out.1, fun y => (HR.out.2 y).trans (HN.out y)⟩⟩
                case measure => simp [intOf]; omega
              · go_simp
                refine hK _ _ ?_
                clear hK K
                try simp only [Act.put, List.getElem_toArray, List.getElem_cons_succ, List.getElem_cons_zero, List.setIfInBounds_toArray, List.set_cons_zero, List.set_cons_succ]
                have hM2 : Mk0 w8 (u1.alloc (.cells #[.int .i64 x.id] 3)) := hM1.new _
                have hzz2 : u1.heap.size < (u1.alloc (.cells #[.int .i64 x.id] 3)).heap.size := by rw [World.size_alloc]; omega
                have cN : (u1.alloc (.cells #[.int .i64 x.id] 3)).cell? ⟨u1.heap.size, 0, none⟩ = some (.int .i64 x.id) := by simp [go_sem]
                replace hA := hA.alloc (.cells #[.int .i64 x.id] 3)
                generalize u1.alloc (.cells #[.int .i64 x.id] 3) = u2 at *
                refine wpAny_ready (rs := [4]) (by kernel_rfl) (by simp) ?_
                refine (AllReady.cons rfl (fun K hK => ?_) AllReady.nil)
                refine step_app (k := .i64) (by rfl) (.tmp 47) (.tmp 50) 66 (by rfl) w8.heap.size 3 i0 Try.underlying66 hi hz0 hz1 hby _ [] 0 (by rfl) hA ⟨b3, o3, none⟩ 0 C (L.take 0) (by rfl) (HT.out _ hM2) (by omega) hM2.size ?_
                intro v3 u3 ho3 hg3 hat3
                refine hK _ _ ?_
                clear hK K
                try simp only [Act.put, List.getElem_toArray, List.getElem_cons_succ, List.getElem_cons_zero, List.setIfInBounds_toArray, List.set_cons_zero, List.set_cons_succ]
                have hM3 := mk_grew hM2 hg3 (fun g e => (hA.lt g e).1)
                replace cN := cell_grew hg3 cN (by simp [Value.ownBlock]; omega)
                clear hA
                have hA := ho3
                have hzz3 := hg3.size
                refine wpAny_ready (rs := [11]) (by kernel_rfl) (by simp) ?_
                refine (AllReady.cons rfl (fun K hK => ?_) AllReady.nil)
                refine step_app (k := .i64) (by rfl) (.tmp 51) (.tmp 57) 66 (by rfl) w8.heap.size 3 i0 Try.underlying66 hi hz0 hz1 hby _ ([] ++ L.take 0) (0 + 0) (by rfl) hA ⟨u1.heap.size, 0, none⟩ 1 1 [x.id] (by rfl) (has_one cN (World.block_lt_of_cell? _ _ cN)) (by omega) hM3.size ?_
                intro v4 u4 ho4 hg4 hat4
                refine hK _ _ ?_
                clear hK K
                try simp only [Act.put, List.getElem_toArray, List.getElem_cons_succ, List.getElem_cons_zero, List.setIfInBounds_toArray, List.set_cons_zero, List.set_cons_succ]
                have hM4 := mk_grew hM3 hg4 (fun g e => (hA.lt g e).1)
                refine wpAny_ready (rs := [15]) (by kernel_rfl) (by simp) ?_
                refine (AllReady.cons rfl (fun K hK => ?_) AllReady.nil)
                refine step_app (k := .i64) (by rfl) (.tmp 58) (.tmp 61) 66 (by rfl) w8.heap.size 3 i0 Try.underlying66 hi hz0 hz1 hby _ ([] ++ L.take 0 ++ [x.id]) (0 + 0 + 1) (by rfl) ho4 ⟨b3, o3, none⟩ N C (L.drop 0) (by rfl) (HD.out _ hM4) (by omega) hM4.size ?_
                intro v5 u5 ho5 hg5 hat5
                refine hK _ _ ?_
                clear hK K
                try simp only [Act.put, List.getElem_toArray, List.getElem_cons_succ, List.getElem_cons_zero, List.setIfInBounds_toArray, List.set_cons_zero, List.set_cons_succ]
                have hM5 := mk_grew hM4 hg5 (fun g e => (ho4.lt g e).1)
                refine wpAny_ready (rs := [16]) (by kernel_rfl) (by simp) ?_
                refine (AllReady.cons rfl (fun K hK => ?_) AllReady.nil)
                go_simp
                refine hK _ _ ?_
                clear hK K
                try simp only [Act.put, List.getElem_toArray, List.getElem_cons_succ, List.getElem_cons_zero, List.setIfInBounds_toArray, List.set_cons_zero, List.set_cons_succ]
                refine wpAny_done (by kernel_rfl) ?_ _
                obtain ⟨A3, C3, rfl, hA3, hN3⟩ := ownsRow_sliceR2 ho5
                refine ‹∀ (a : Act) (w : World), _ → _› _ _ ?_
                have hw3 := (ownsRow_own ho5)
                obtain ⟨b4, o4, e4, hl4, hb4, hc4⟩ := hw3.2 (by omega)
                subst e4
                clear hl4 hb4 hc4
                have HW := Lib.hid hw3
                clear hw3 hA3 ho5
                go_wp2_with fail
                go_roundw
                case rel => exact ⟨k + 1, by omega, by go_num, M08.trans hM5, b4, o4, _, C3, _, rfl, HW.out.low M08.size, hN3, by omega, Lib.hid ⟨HR.out.1, fun y => (HR.out.2 y).trans (HN.out y)⟩⟩
                case measure => simp [intOf]; omega
            · go_simp
              refine hK _ _ ?_
              clear hK K
              try simp only [Act.put, List.getElem_toArray, List.getElem_cons_succ, List.getElem_cons_zero, List.setIfInBounds_toArray, List.set_cons_zero, List.set_cons_succ]
              have hM1 : Mk0 w8 (u0.alloc (.cells #[.int .i64 x.id] 3)) := hM0.new _
              have hzz1 : u0.heap.size < (u0.alloc (.cells #[.int .i64 x.id] 3)).heap.size := by rw [World.size_alloc]; omega
              have cN : (u0.alloc (.cells #[.int .i64 x.id] 3)).cell? ⟨u0.heap.size, 0, none⟩ = some (.int .i64 x.id) := by simp [go_sem]
              generalize u0.alloc (.cells #[.int .i64 x.id] 3) = u1 at *
              refine wpAny_ready (rs := [0]) (by kernel_rfl) (by simp) ?_
              refine (AllReady.cons rfl (fun K hK => ?_) AllReady.nil)
              go_simp
              refine hK _ _ ?_
              clear hK K
              try simp only [Act.put, List.getElem_toArray, List.getElem_cons_succ, List.getElem_cons_zero, List.setIfInBounds_toArray, List.set_cons_zero, List.set_cons_succ]
              have hM2 : Mk0 w8 (u1.alloc (.cells #[] 3)) := hM1.new _
              have hzz2 : u1.heap.size < (u1.alloc (.cells #[] 3)).heap.size := by rw [World.size_alloc]; omega
              have hA : (u1.alloc (.cells #[] 3)).ownsRow w8.heap.size 3 1 (.slice (some ⟨u1.heap.size, 0, none⟩) 0 0) 0 (([] : List Int).map (.int .i64)) := own_lowR (own_lit u1 3 [] (by simp)) hM1.size
              replace cN := (Mk.alloc u1 (.cells #[] 3)).cellAt cN
              generalize u1.alloc (.cells #[] 3) = u2 at *
              refine wpAny_ready (rs := [4]) (by kernel_rfl) (by simp) ?_
              refine (AllReady.cons rfl (fun K hK => ?_) AllReady.nil)
              refine step_app (k := .i64) (by rfl) (.tmp 47) (.tmp 50) 66 (by rfl) w8.heap.size 3 i0 Try.underlying66 hi hz0 hz1 hby _ [] 0 (by rfl) hA ⟨b3, o3, none⟩ 0 C (L.take 0) (by rfl) (HT.out _ hM2) (by omega) hM2.size ?_
              intro v3 u3 ho3 hg3 hat3
              refine hK _ _ ?_
              clear hK K
              try simp only [Act.put, List.getElem_toArray, List.getElem_cons_succ, List.getElem_cons_zero, List.setIfInBounds_toArray, List.set_cons_zero, List.set_cons_succ]
              have hM3 := mk_grew hM2 hg3 (fun g e => (hA.lt g e).1)
              replace cN := cell_grew hg3 cN (by simp [Value.ownBlock]; omega)
              clear hA
              have hA := ho3
              have hzz3 := hg3.size
              refine wpAny_ready (rs := [11]) (by kernel_rfl) (by simp) ?_
              refine (AllReady.cons rfl (fun K hK => ?_) AllReady.nil)
              refine step_app (k := .i64) (by rfl) (.tmp 51) (.tmp 57) 66 (by rfl) w8.heap.size 3 i0 Try.underlying66 hi hz0 hz1 hby _ ([] ++ L.take 0) (0 + 0) (by rfl) hA ⟨u0.heap.size, 0, none⟩ 1 1 [x.id] (by rfl) (has_one cN (World.block_lt_of_cell? _ _ cN)) (by omega) hM3.size ?_
              intro v4 u4 ho4 hg4 hat4
              refine hK _ _ ?_
              clear hK K
              try simp only [Act.put, List.getElem_toArray, List.getElem_cons_succ, List.getElem_cons_zero, List.setIfInBounds_toArray, List.set_cons_zero, List.set_cons_succ]
              have hM4 := mk_grew hM3 hg4 (fun g e => (hA.lt g e).1)
              refine wpAny_ready (rs := [15]) (by kernel_rfl) (by simp) ?_
              refine (AllReady.cons rfl (fun K hK => ?_) AllReady.nil)
              refine step_app (k := .i64) (by rfl) (.tmp 58) (.tmp 61) 66 (by rfl) w8.heap.size 3 i0 Try.underlying66 hi hz0 hz1 hby _ ([] ++ L.take 0 ++ [x.id]) (0 + 0 + 1) (by rfl) ho4 ⟨b3, o3, none⟩ N C (L.drop 0) (by rfl) (HD.out _ hM4) (by omega) hM4.size ?_
              intro v5 u5 ho5 hg5 hat5
              refine hK _ _ ?_
              clear hK K
              try simp only [Act.put, List.getElem_toArray, List.getElem_cons_succ, List.getElem_cons_zero, List.setIfInBounds_toArray, List.set_cons_zero, List.set_cons_succ]
              have hM5 := mk_grew hM4 hg5 (fun g e => (ho4.lt g e).1)
              refine wpAny_ready (rs := [16]) (by kernel_rfl) (by simp) ?_
              refine (AllReady.cons rfl (fun K hK => ?_) AllReady.nil)
              go_simp
              refine hK _ _ ?_
              clear hK K
              try simp only [Act.put, List.getElem_toArray, List.getElem_cons_succ, List.getElem_cons_zero, List.setIfInBounds_toArray, List.set_cons_zero, List.set_cons_succ]
              refine wpAny_done (by kernel_rfl) ?_ _
              obtain ⟨A3, C3, rfl, hA3, hN3⟩ := ownsRow_sliceR2 ho5
              refine ‹∀ (a : Act) (w : World), _ → _› _ _ ?_
              have hw3 := (ownsRow_own ho5)
              obtain ⟨b4, o4, e4, hl4, hb4, hc4⟩ := hw3.2 (by omega)
              subst e4
              clear hl4 hb4 hc4
              have HW := Lib.hid hw3
              clear hw3 hA3 ho5
              go_wp2_with fail
              go_roundw
              case rel => exact ⟨k + 1, by omega, by go_num, M08.trans hM5, b4, o4, _, C3, _, rfl, HW.out.low M08.size, hN3, by omega, Lib.hid ⟨HR.out.1, fun y => (HR.out.2 y).trans (HN.out y)⟩⟩
              case measure => simp [intOf]; omega
        · obtain ⟨m, rfl⟩ : ∃ m, kk = m + 1 := ⟨kk - 1, by omega⟩
          obtain rfl : z = (m : Int) + 1 := by omega
          clear hz
          have hmN : m < N := by omega
          obtain ⟨b', o', y, eb, hb', hy, cy⟩ := hOw.out.has.at_ hmN
          simp only [Option.some.injEq, Addr.mk.injEq, and_true] at eb
          obtain ⟨rfl, rfl⟩ := eb
          have jw : IntKind.i64.wrap (m : Int) = (m : Int) := by rw [IntKind.wrap_i64]; omega
          have j1 : (0 : Int) ≤ (m : Int) := by omega
          have j2 : (m : Int) < (N : Int) := by omega
          have q0 : decide ((0 : Int) < (m : Int) + 1) = true := decide_eq_true (by omega)
          clear e0
          by_cases hyx : x.id < y
          · have q1 : decide (x.id < y) = true := decide_eq_true hyx
            have hG' := Lib.hid (show ∀ j, m ≤ j → j < L.length → x.id < L.getD j 0 from fun j h1 h2 => by by_cases e : j = m; (subst e; rw [← hy.out]; exact hyx); exact hG.out j (by omega) h2)
            clear hyx
            go_wp2_with fail
            refine wp_region_wk (fun w' => Mk0 wr w' ∧ w'.cell? ⟨b, off + k * 5, none⟩ = some (.int .i64 x.id) ∧ w'.cell? ⟨b3, o3 + m, none⟩ = some (.int .i64 y)) (by kernel_rfl) (by kernel_rfl) (⟨Mk.drew1 _, d0, cy⟩) ?_
            change Wk _ _ _ _ 15 0 _
            first | (refine Wk.skip (m := 14) (k := 0) rfl (by rfl) ?_) | (refine Wk.step (m := 14) (k := 0) (v := _) rfl (by rfl) (fun wv hS => by obtain ⟨s0, s1, s2⟩ := hS; go_simp; try with_reducible rfl) ?_)
            try simp only [Act.put, List.getElem_toArray, List.getElem_cons_zero, List.setIfInBounds_toArray, List.set_cons_zero, List.set_cons_succ]
            first | (refine Wk.skip (m := 13) (k := 1) rfl (by rfl) ?_) | (refine Wk.step (m := 13) (k := 1) (v := _) rfl (by rfl) (fun wv hS => by obtain ⟨s0, s1, s2⟩ := hS; go_simp; try with_reducible rfl) ?_)
            try simp only [Act.put, List.getElem_toArray, List.getElem_cons_succ, List.getElem_cons_zero, List.setIfInBounds_toArray, List.set_cons_zero, List.set_cons_succ]
            first | (refine Wk.skip (m := 12) (k := 2) rfl (by rfl) ?_) | (refine Wk.step (m := 12) (k := 2) (v := _) rfl (by rfl) (fun wv hS => by obtain ⟨s0, s1, s2⟩ := hS; go_simp; try with_reducible rfl) ?_)
            try simp only [Act.put, List.getElem_toArray, List.getElem_cons_succ, List.getElem_cons_zero, List.setIfInBounds_toArray, List.set_cons_zero, List.set_cons_succ]
            first | (refine Wk.skip (m := 11) (k := 3) rfl (by rfl) ?_) | (refine Wk.step (m := 11) (k := 3) (v := _) rfl (by rfl) (fun wv hS => by obtain ⟨s0, s1, s2⟩ := hS; go_simp; try with_reducible rfl) ?_)
            try simp only [Act.put, List.getElem_toArray, List.getElem_cons_succ, List.getElem_cons_zero, List.setIfInBounds_toArray, List.set_cons_zero, List.set_cons_succ]
            first | (refine Wk.skip (m := 10) (k := 4) rfl (by rfl) ?_) | (refine Wk.step (m := 10) (k := 4) (v := _) rfl (by rfl) (fun wv hS => by obtain ⟨s0, s1, s2⟩ := hS; go_simp; try with_reducible rfl) ?_)
            try simp only [Act.put, List.getElem_toArray, List.getElem_cons_succ, List.getElem_cons_zero, List.setIfInBounds_toArray, List.set_cons_zero, List.set_cons_succ]
            first | (refine Wk.skip (m := 9) (k := 5) rfl (by rfl) ?_) | (refine Wk.step (m := 9) (k := 5) (v := _) rfl (by rfl) (fun wv hS => by obtain ⟨s0, s1, s2⟩ := hS; go_simp; try with_reducible rfl) ?_)
            try simp only [Act.put, List.getElem_toArray, List.getElem_cons_succ, List.getElem_cons_zero, List.setIfInBounds_toArray, List.set_cons_zero, List.set_cons_succ]
            first | (refine Wk.skip (m := 8) (k := 6) rfl (by rfl) ?_) | (refine Wk.step (m := 8) (k := 6) (v := _) rfl (by rfl) (fun wv hS => by obtain ⟨s0, s1, s2⟩ := hS; go_simp; try with_reducible rfl) ?_)
            try simp only [Act.put, List.getElem_toArray, List.getElem_cons_succ, List.getElem_cons_zero, List.setIfInBounds_toArray, List.set_cons_zero, List.set_cons_succ]
            first | (refine Wk.skip (m := 7) (k := 7) rfl (by rfl) ?_) | (refine Wk.step (m := 7) (k := 7) (v := _) rfl (by rfl) (fun wv hS => by obtain ⟨s0, s1, s2⟩ := hS; go_simp; try with_reducible rfl) ?_)
            try simp only [Act.put, List.getElem_toArray, List.getElem_cons_succ, List.getElem_cons_zero, List.setIfInBounds_toArray, List.set_cons_zero, List.set_cons_succ]
            first | (refine Wk.skip (m := 6) (k := 8) rfl (by rfl) ?_) | (refine Wk.step (m := 6) (k := 8) (v := _) rfl (by rfl) (fun wv hS => by obtain ⟨s0, s1, s2⟩ := hS; go_simp; try with_reducible rfl) ?_)
            try simp only [Act.put, List.getElem_toArray, List.getElem_cons_succ, List.getElem_cons_zero, List.setIfInBounds_toArray, List.set_cons_zero, List.set_cons_succ]
            first | (refine Wk.skip (m := 5) (k := 9) rfl (by rfl) ?_) | (refine Wk.step (m := 5) (k := 9) (v := _) rfl (by rfl) (fun wv hS => by obtain ⟨s0, s1, s2⟩ := hS; go_simp; try with_reducible rfl) ?_)
            try simp only [Act.put, List.getElem_toArray, List.getElem_cons_succ, List.getElem_cons_zero, List.setIfInBounds_toArray, List.set_cons_zero, List.set_cons_succ]
            first | (refine Wk.skip (m := 4) (k := 10) rfl (by rfl) ?_) | (refine Wk.step (m := 4) (k := 10) (v := _) rfl (by rfl) (fun wv hS => by obtain ⟨s0, s1, s2⟩ := hS; go_simp; try with_reducible rfl) ?_)
            try simp only [Act.put, List.getElem_toArray, List.getElem_cons_succ, List.getElem_cons_zero, List.setIfInBounds_toArray, List.set_cons_zero, List.set_cons_succ]
            first | (refine Wk.skip (m := 3) (k := 11) rfl (by rfl) ?_) | (refine Wk.step (m := 3) (k := 11) (v := _) rfl (by rfl) (fun wv hS => by obtain ⟨s0, s1, s2⟩ := hS; go_simp; try with_reducible rfl) ?_)
            try simp only [Act.put, List.getElem_toArray, List.getElem_cons_succ, List.getElem_cons_zero, List.setIfInBounds_toArray, List.set_cons_zero, List.set_cons_succ]
            first | (refine Wk.skip (m := 2) (k := 12) rfl (by rfl) ?_) | (refine Wk.step (m := 2) (k := 12) (v := _) rfl (by rfl) (fun wv hS => by obtain ⟨s0, s1, s2⟩ := hS; go_simp; try with_reducible rfl) ?_)
            try simp only [Act.put, List.getElem_toArray, List.getElem_cons_succ, List.getElem_cons_zero, List.setIfInBounds_toArray, List.set_cons_zero, List.set_cons_succ]
            first | (refine Wk.skip (m := 1) (k := 13) rfl (by rfl) ?_) | (refine Wk.step (m := 1) (k := 13) (v := _) rfl (by rfl) (fun wv hS => by obtain ⟨s0, s1, s2⟩ := hS; go_simp; try with_reducible rfl) ?_)
            try simp only [Act.put, List.getElem_toArray, List.getElem_cons_succ, List.getElem_cons_zero, List.setIfInBounds_toArray, List.set_cons_zero, List.set_cons_succ]
            first | (refine Wk.skip (m := 0) (k := 14) rfl (by rfl) ?_) | (refine Wk.step (m := 0) (k := 14) (v := _) rfl (by rfl) (fun wv hS => by obtain ⟨s0, s1, s2⟩ := hS; go_simp; try with_reducible rfl) ?_)
            try simp only [Act.put, List.getElem_toArray, List.getElem_cons_succ, List.getElem_cons_zero, List.setIfInBounds_toArray, List.set_cons_zero, List.set_cons_succ]
            refine Wk.done fun w6 h6 => ?_
            clear d0 cy
            obtain ⟨m6, d0, cy⟩ := h6
            go_wp2_with fail
            go_roundw
            case rel => exact ⟨m, (m : Int), rfl, by omega, by first | rfl | go_num, hG', hMi.trans m6⟩
            case measure => first | (simp [intOf]; done) | (simp [intOf]; omega)
          · have q1 : decide (x.id < y) = false := decide_eq_false hyx
            have q3 : ((m : Int) + 1 == 0) = false := by simp; omega
            cases q2 : (y == x.id)
            · have q2' : (y != x.id) = true := by simp only [bne, q2]; rfl
              have HR := Lib.hid (show SL ([] ++ L.take (m + 1) ++ [x.id] ++ L.drop (m + 1)) ∧ ∀ y, y ∈ [] ++ L.take (m + 1) ++ [x.id] ++ L.drop (m + 1) ↔ y = x.id ∨ y ∈ L by rw [List.nil_append]; exact putR_ok hS.out.1 (by rw [HLn.out]; omega) hG.out (fun m' e => by obtain rfl : m' = m := (by omega); rw [← hy.out]; have h3 : y ≠ x.id := (by simpa using q2); omega))
              clear q2 hyx
              go_wp2_with fail
              refine wp_region_wk (fun w' => Mk0 wr w' ∧ w'.cell? ⟨b, off + k * 5, none⟩ = some (.int .i64 x.id) ∧ w'.cell? ⟨b3, o3 + m, none⟩ = some (.int .i64 y)) (by kernel_rfl) (by kernel_rfl) (⟨Mk.drew1 _, d0, cy⟩) ?_
              change Wk _ _ _ _ 15 0 _
              first | (refine Wk.skip (m := 14) (k := 0) rfl (by rfl) ?_) | (refine Wk.step (m := 14) (k := 0) (v := _) rfl (by rfl) (fun wv hS => by obtain ⟨s0, s1, s2⟩ := hS; go_simp; try with_reducible rfl) ?_)
              try simp only [Act.put, List.getElem_toArray, List.getElem_cons_zero, List.setIfInBounds_toArray, List.set_cons_zero, List.set_cons_succ]
              first | (refine Wk.skip (m := 13) (k := 1) rfl (by rfl) ?_) | (refine Wk.step (m := 13) (k := 1) (v := _) rfl (by rfl) (fun wv hS => by obtain ⟨s0, s1, s2⟩ := hS; go_simp; try with_reducible rfl) ?_)
              try simp only [Act.put, List.getElem_toArray, List.getElem_cons_succ, List.getElem_cons_zero, List.setIfInBounds_toArray, List.set_cons_zero, List.set_cons_succ]
              first | (refine Wk.skip (m := 12) (k := 2) rfl (by rfl) ?_) | (refine Wk.step (m := 12) (k := 2) (v := _) rfl (by rfl) (fun wv hS => by obtain ⟨s0, s1, s2⟩ := hS; go_simp; try with_reducible rfl) ?_)
              try simp only [Act.put, List.getElem_toArray, List.getElem_cons_succ, List.getElem_cons_zero, List.setIfInBounds_toArray, List.set_cons_zero, List.set_cons_succ]
              first | (refine Wk.skip (m := 11) (k := 3) rfl (by rfl) ?_) | (refine Wk.step (m := 11) (k := 3) (v := _) rfl (by rfl) (fun wv hS => by obtain ⟨s0, s1, s2⟩ := hS; go_simp; try with_reducible rfl) ?_)
              try simp only [Act.put, List.getElem_toArray, List.getElem_cons_succ, List.getElem_cons_zero, List.setIfInBounds_toArray, List.set_cons_zero, List.set_cons_succ]
              first | (refine Wk.skip (m := 10) (k := 4) rfl (by rfl) ?_) | (refine Wk.step (m := 10) (k := 4) (v := _) rfl (by rfl) (fun wv hS => by obtain ⟨s0, s1, s2⟩ := hS; go_simp; try with_reducible rfl) ?_)
              try simp only [Act.put, List.getElem_toArray, List.getElem_cons_succ, List.getElem_cons_zero, List.setIfInBounds_toArray, List.set_cons_zero, List.set_cons_succ]
              first | (refine Wk.skip (m := 9) (k := 5) rfl (by rfl) ?_) | (refine Wk.step (m := 9) (k := 5) (v := _) rfl (by rfl) (fun wv hS => by obtain ⟨s0, s1, s2⟩ := hS; go_simp; try with_reducible rfl) ?_)
              try simp only [Act.put, List.getElem_toArray, List.getElem_cons_succ, List.getElem_cons_zero, List.setIfInBounds_toArray, List.set_cons_zero, List.set_cons_succ]
              first | (refine Wk.skip (m := 8) (k := 6) rfl (by rfl) ?_) | (refine Wk.step (m := 8) (k := 6) (v := _) rfl (by rfl) (fun wv hS => by obtain ⟨s0, s1, s2⟩ := hS; go_simp; try with_reducible rfl) ?_)
              try simp only [Act.put, List.getElem_toArray, List.getElem_cons_succ, List.getElem_cons_zero, List.setIfInBounds_toArray, List.set_cons_zero, List.set_cons_succ]
              first | (refine Wk.skip (m := 7) (k := 7) rfl (by rfl) ?_) | (refine Wk.step (m := 7) (k := 7) (v := _) rfl (by rfl) (fun wv hS => by obtain ⟨s0, s1, s2⟩ := hS; go_simp; try with_reducible rfl) ?_)
              try simp only [Act.put, List.getElem_toArray, List.getElem_cons_succ, List.getElem_cons_zero, List.setIfInBounds_toArray, List.set_cons_zero, List.set_cons_succ]
              first | (refine Wk.skip (m := 6) (k := 8) rfl (by rfl) ?_) | (refine Wk.step (m := 6) (k := 8) (v := _) rfl (by rfl) (fun wv hS => by obtain ⟨s0, s1, s2⟩ := hS; go_simp; try with_reducible rfl) ?_)
              try simp only [Act.put, List.getElem_toArray, List.getElem_cons_succ, List.getElem_cons_zero, List.setIfInBounds_toArray, List.set_cons_zero, List.set_cons_succ]
              first | (refine Wk.skip (m := 5) (k := 9) rfl (by rfl) ?_) | (refine Wk.step (m := 5) (k := 9) (v := _) rfl (by rfl) (fun wv hS => by obtain ⟨s0, s1, s2⟩ := hS; go_simp; try with_reducible rfl) ?_)
              try simp only [Act.put, List.getElem_toArray, List.getElem_cons_succ, List.getElem_cons_zero, List.setIfInBounds_toArray, List.set_cons_zero, List.set_cons_succ]
              first | (refine Wk.skip (m := 4) (k := 10) rfl (by rfl) ?_) | (refine Wk.step (m := 4) (k := 10) (v := _) rfl (by rfl) (fun wv hS => by obtain ⟨s0, s1, s2⟩ := hS; go_simp; try with_reducible rfl) ?_)
              try simp only [Act.put, List.getElem_toArray, List.getElem_cons_succ, List.getElem_cons_zero, List.setIfInBounds_toArray, List.set_cons_zero, List.set_cons_succ]
              first | (refine Wk.skip (m := 3) (k := 11) rfl (by rfl) ?_) | (refine Wk.step (m := 3) (k := 11) (v := _) rfl (by rfl) (fun wv hS => by obtain ⟨s0, s1, s2⟩ := hS; go_simp; try with_reducible rfl) ?_)
              try simp only [Act.put, List.getElem_toArray, List.getElem_cons_succ, List.getElem_cons_zero, List.setIfInBounds_toArray, List.set_cons_zero, List.set_cons_succ]
              first | (refine Wk.skip (m := 2) (k := 12) rfl (by rfl) ?_) | (refine Wk.step (m := 2) (k := 12) (v := _) rfl (by rfl) (fun wv hS => by obtain ⟨s0, s1, s2⟩ := hS; go_simp; try with_reducible rfl) ?_)
              try simp only [Act.put, List.getElem_toArray, List.getElem_cons_succ, List.getElem_cons_zero, List.setIfInBounds_toArray, List.set_cons_zero, List.set_cons_succ]
              first | (refine Wk.skip (m := 1) (k := 13) rfl (by rfl) ?_) | (refine Wk.step (m := 1) (k := 13) (v := _) rfl (by rfl) (fun wv hS => by obtain ⟨s0, s1, s2⟩ := hS; go_simp; try with_reducible rfl) ?_)
              try simp only [Act.put, List.getElem_toArray, List.getElem_cons_succ, List.getElem_cons_zero, List.setIfInBounds_toArray, List.set_cons_zero, List.set_cons_succ]
              first | (refine Wk.skip (m := 0) (k := 14) rfl (by rfl) ?_) | (refine Wk.step (m := 0) (k := 14) (v := _) rfl (by rfl) (fun wv hS => by obtain ⟨s0, s1, s2⟩ := hS; go_simp; try with_reducible rfl) ?_)
              try simp only [Act.put, List.getElem_toArray, List.getElem_cons_succ, List.getElem_cons_zero, List.setIfInBounds_toArray, List.set_cons_zero, List.set_cons_succ]
              refine Wk.done fun w6 h6 => ?_
              clear d0 cy
              obtain ⟨m6, d0, cy⟩ := h6
              go_wp2_with fail
              refine wp_region_wk (fun w' => Mk0 w6 w' ∧ w'.cell? ⟨b, off + k * 5, none⟩ = some (.int .i64 x.id) ∧ w'.cell? ⟨b3, o3 + m, none⟩ = some (.int .i64 y)) (by kernel_rfl) (by kernel_rfl) (⟨Mk.drew1 _, d0, cy⟩) ?_
              change Wk _ _ _ _ 15 0 _
              first | (refine Wk.skip (m := 14) (k := 0) rfl (by rfl) ?_) | (refine Wk.step (m := 14) (k := 0) (v := _) rfl (by rfl) (fun wv hS => by obtain ⟨s0, s1, s2⟩ := hS; go_simp; try with_reducible rfl) ?_)
              try simp only [Act.put, List.getElem_toArray, List.getElem_cons_zero, List.setIfInBounds_toArray, List.set_cons_zero, List.set_cons_succ]
              first | (refine Wk.skip (m := 13) (k := 1) rfl (by rfl) ?_) | (refine Wk.step (m := 13) (k := 1) (v := _) rfl (by rfl) (fun wv hS => by obtain ⟨s0, s1, s2⟩ := hS; go_simp; try with_reducible rfl) ?_)
              try simp only [Act.put, List.getElem_toArray, List.getElem_cons_succ, List.getElem_cons_zero, List.setIfInBounds_toArray, List.set_cons_zero, List.set_cons_succ]
              first | (refine Wk.skip (m := 12) (k := 2) rfl (by rfl) ?_) | (refine Wk.step (m := 12) (k := 2) (v := _) rfl (by rfl) (fun wv hS => by obtain ⟨s0, s1, s2⟩ := hS; go_simp; try with_reducible rfl) ?_)
              try simp only [Act.put, List.getElem_toArray, List.getElem_cons_succ, List.getElem_cons_zero, List.setIfInBounds_toArray, List.set_cons_zero, List.set_cons_succ]
              first | (refine Wk.skip (m := 11) (k := 3) rfl (by rfl) ?_) | (refine Wk.step (m := 11) (k := 3) (v := _) rfl (by rfl) (fun wv hS => by obtain ⟨s0, s1, s2⟩ := hS; go_simp; try with_reducible rfl) ?_)
              try simp only [Act.put, List.getElem_toArray, List.getElem_cons_succ, List.getElem_cons_zero, List.setIfInBounds_toArray, List.set_cons_zero, List.set_cons_succ]
              first | (refine Wk.skip (m := 10) (k := 4) rfl (by rfl) ?_) | (refine Wk.step (m := 10) (k := 4) (v := _) rfl (by rfl) (fun wv hS => by obtain ⟨s0, s1, s2⟩ := hS; go_simp; try with_reducible rfl) ?_)
              try simp only [Act.put, List.getElem_toArray, List.getElem_cons_succ, List.getElem_cons_zero, List.setIfInBounds_toArray, List.set_cons_zero, List.set_cons_succ]
              first | (refine Wk.skip (m := 9) (k := 5) rfl (by rfl) ?_) | (refine Wk.step (m := 9) (k := 5) (v := _) rfl (by rfl) (fun wv hS => by obtain ⟨s0, s1, s2⟩ := hS; go_simp; try with_reducible rfl) ?_)
              try simp only [Act.put, List.getElem_toArray, List.getElem_cons_succ, List.getElem_cons_zero, List.setIfInBounds_toArray, List.set_cons_zero, List.set_cons_succ]
              first | (refine Wk.skip (m := 8) (k := 6) rfl (by rfl) ?_) | (refine Wk.step (m := 8) (k := 6) (v := _) rfl (by rfl) (fun wv hS => by obtain ⟨s0, s1, s2⟩ := hS; go_simp; try with_reducible rfl) ?_)
              try simp only [Act.put, List.getElem_toArray, List.getElem_cons_succ, List.getElem_cons_zero, List.setIfInBounds_toArray, List.set_cons_zero, List.set_cons_succ]
              first | (refine Wk.skip (m := 7) (k := 7) rfl (by rfl) ?_) | (refine Wk.step (m := 7) (k := 7) (v := _) rfl (by rfl) (fun wv hS => by obtain ⟨s0, s1, s2⟩ := hS; go_simp; try with_reducible rfl) ?_)
              try simp only [Act.put, List.getElem_toArray, List.getElem_cons_succ, List.getElem_cons_zero, List.setIfInBounds_toArray, List.set_cons_zero, List.set_cons_succ]
              first | (refine Wk.skip (m := 6) (k := 8) rfl (by rfl) ?_) | (refine Wk.step (m := 6) (k := 8) (v := _) rfl (by rfl) (fun wv hS => by obtain ⟨s0, s1, s2⟩ := hS; go_simp; try with_reducible rfl) ?_)
              try simp only [Act.put, List.getElem_toArray, List.getElem_cons_succ, List.getElem_cons_zero, List.setIfInBounds_toArray, List.set_cons_zero, List.set_cons_succ]
              first | (refine Wk.skip (m := 5) (k := 9) rfl (by rfl) ?_) | (refine Wk.step (m := 5) (k := 9) (v := _) rfl (by rfl) (fun wv hS => by obtain ⟨s0, s1, s2⟩ := hS; go_simp; try with_reducible rfl) ?_)
              try simp only [Act.put, List.getElem_toArray, List.getElem_cons_succ, List.getElem_cons_zero, List.setIfInBounds_toArray, List.set_cons_zero, List.set_cons_succ]
              first | (refine Wk.skip (m := 4) (k := 10) rfl (by rfl) ?_) | (refine Wk.step (m := 4) (k := 10) (v := _) rfl (by rfl) (fun wv hS => by obtain ⟨s0, s1, s2⟩ := hS; go_simp; try with_reducible rfl) ?_)
              try simp only [Act.put, List.getElem_toArray, List.getElem_cons_succ, List.getElem_cons_zero, List.setIfInBounds_toArray, List.set_cons_zero, List.set_cons_succ]
              first | (refine Wk.skip (m := 3) (k := 11) rfl (by rfl) ?_) | (refine Wk.step (m := 3) (k := 11) (v := _) rfl (by rfl) (fun wv hS => by obtain ⟨s0, s1, s2⟩ := hS; go_simp; try with_reducible rfl) ?_)
              try simp only [Act.put, List.getElem_toArray, List.getElem_cons_succ, List.getElem_cons_zero, List.setIfInBounds_toArray, List.set_cons_zero, List.set_cons_succ]
              first | (refine Wk.skip (m := 2) (k := 12) rfl (by rfl) ?_) | (refine Wk.step (m := 2) (k := 12) (v := _) rfl (by rfl) (fun wv hS => by obtain ⟨s0, s1, s2⟩ := hS; go_simp; try with_reducible rfl) ?_)
              try simp only [Act.put, List.getElem_toArray, List.getElem_cons_succ, List.getElem_cons_zero, List.setIfInBounds_toArray, List.set_cons_zero, List.set_cons_succ]
              first | (refine Wk.skip (m := 1) (k := 13) rfl (by rfl) ?_) | (refine Wk.step (m := 1) (k := 13) (v := _) rfl (by rfl) (fun wv hS => by obtain ⟨s0, s1, s2⟩ := hS; go_simp; try with_reducible rfl) ?_)
              try simp only [Act.put, List.getElem_toArray, List.getElem_cons_succ, List.getElem_cons_zero, List.setIfInBounds_toArray, List.set_cons_zero, List.set_cons_succ]
              first | (refine Wk.skip (m := 0) (k := 14) rfl (by rfl) ?_) | (refine Wk.step (m := 0) (k := 14) (v := _) rfl (by rfl) (fun wv hS => by obtain ⟨s0, s1, s2⟩ := hS; go_simp; try with_reducible rfl) ?_)
              try simp only [Act.put, List.getElem_toArray, List.getElem_cons_succ, List.getElem_cons_zero, List.setIfInBounds_toArray, List.set_cons_zero, List.set_cons_succ]
              refine Wk.done fun w8 h8 => ?_
              clear d0 cy
              obtain ⟨m8, d0, cy⟩ := h8
              clear cy
              have M08 := (hMw.trans m6).trans m8
              have hO8 := own_mk0 hOw.out (m6.trans m8)
              have hh := hO8.has
              have HH := Lib.hid (fun (w' : World) (m_ : Mk0 w8 w') => show Has .i64 w' w8.heap.size (some ⟨b3, o3, none⟩) N L from hh.keep fun p hp => by obtain ⟨pb, po, ps⟩ := p; exact World.cell?_of_block (w := w8) (m_.block pb hp (.inr (Nat.zero_le _))))
              have HX := Lib.hid (fun (w' : World) (m_ : Mk0 w8 w') => m_.cellAt d0)
              have HT := Lib.hid (fun (w' : World) (m_ : Mk0 w8 w') => show Has .i64 w' w'.heap.size (some ⟨b3, o3, none⟩) (m + 1) (L.take (m + 1)) from ⟨by rw [List.length_take, HLn.out]; omega, fun h0 => by obtain ⟨b', o', e, hb, hc⟩ := (HH.out w' m_).2 (by omega); exact ⟨b', o', e, Nat.lt_of_lt_of_le hb m_.size, fun i hi => by first | exact absurd hi (Nat.not_lt_zero _) | (rw [hc i (by omega)]; simp [List.getD_eq_getElem?_getD, hi])⟩⟩)
              clear hO8 hh d0
              have HD := Lib.hid (fun (w' : World) (m_ : Mk0 w8 w') => show Has .i64 w' w'.heap.size (some (if C = m + 1 then ⟨b3, o3, none⟩ else ⟨b3, o3 + (m + 1), none⟩)) (N - (m + 1)) (L.drop (m + 1)) from ⟨by rw [List.length_drop, HLn.out], fun h0 => by obtain ⟨b', o', e, hb, hc⟩ := (HH.out w' m_).2 (by omega); simp only [Option.some.injEq, Addr.mk.injEq, and_true] at e; obtain ⟨rfl, rfl⟩ := e; exact ⟨b3, o3 + (m + 1), by rw [if_neg (by omega)], Nat.lt_of_lt_of_le hb m_.size, fun i hi => by rw [show o3 + (m + 1) + i = o3 + (m + 1 + i) by omega, hc (m + 1 + i) (by omega)]; simp [List.getD_eq_getElem?_getD]⟩⟩)
              have j3 : (m : Int) + 1 ≤ (C : Int) := by omega
              have j4 : (m : Int) + 1 ≤ (N : Int) := by omega
              have j5 : (0 : Int) ≤ (m : Int) + 1 := by omega
              go_wp2_with fail
              refine wp_region_any (by kernel_rfl) ?_
              change wpAny _ _ _ _ _ _ _ (World.drew w8)
              have hM0 : Mk0 w8 w8.drew := Mk.drew1 w8
              generalize w8.drew = u0 at *
              refine wpAny_take (i := 1) (v := _) rfl (by kernel_rfl) (by kernel_rfl) (by kernel_rfl) (fun _ _ _ h => h) (Or.inl ⟨by rfl, fun w => by go_simp; try with_reducible rfl⟩) ?_
              try simp only [Act.put, List.getElem_toArray, List.getElem_cons_succ, List.getElem_cons_zero, List.setIfInBounds_toArray, List.set_cons_zero, List.set_cons_succ]
              refine wpAny_take (i := 2) (v := _) rfl (by kernel_rfl) (by kernel_rfl) (by kernel_rfl) (fun _ _ _ h => h) (Or.inl ⟨by rfl, fun w => by go_simp; try with_reducible rfl⟩) ?_
              try simp only [Act.put, List.getElem_toArray, List.getElem_cons_succ, List.getElem_cons_zero, List.setIfInBounds_toArray, List.set_cons_zero, List.set_cons_succ]
              refine wpAny_take (i := 3) (v := .slice (some ⟨b3, o3, none⟩) (m + 1) C) rfl (by kernel_rfl) (by kernel_rfl) (by kernel_rfl) (fun _ _ _ h => h) (Or.inl ⟨by rfl, fun w => by go_simp; try with_reducible rfl⟩) ?_
              try simp only [Act.put, List.getElem_toArray, List.getElem_cons_succ, List.getElem_cons_zero, List.setIfInBounds_toArray, List.set_cons_zero, List.set_cons_succ]
              refine wpAny_take (i := 5) (v := _) rfl (by kernel_rfl) (by kernel_rfl) (by kernel_rfl) (fun _ _ _ h => h) (Or.inl ⟨by rfl, fun w => by go_simp; try with_reducible rfl⟩) ?_
              try simp only [Act.put, List.getElem_toArray, List.getElem_cons_succ, List.getElem_cons_zero, List.setIfInBounds_toArray, List.set_cons_zero, List.set_cons_succ]
              refine wpAny_take (i := 6) (v := _) rfl (by kernel_rfl) (by kernel_rfl) (by kernel_rfl) (fun _ _ _ h => h) (Or.inl ⟨by rfl, fun w => by go_simp; try with_reducible rfl⟩) ?_
              try simp only [Act.put, List.getElem_toArray, List.getElem_cons_succ, List.getElem_cons_zero, List.setIfInBounds_toArray, List.set_cons_zero, List.set_cons_succ]
              refine wpAny_take (i := 7) (v := _) rfl (by kernel_rfl) (by kernel_rfl) (by kernel_rfl) (fun _ _ _ h => h) (Or.inl ⟨by rfl, fun w => by go_simp; try with_reducible rfl⟩) ?_
              try simp only [Act.put, List.getElem_toArray, List.getElem_cons_succ, List.getElem_cons_zero, List.setIfInBounds_toArray, List.set_cons_zero, List.set_cons_succ]
              refine wpAny_take (i := 8) (v := _) rfl (by kernel_rfl) (by kernel_rfl) (by kernel_rfl) (fun _ _ _ h => h) (Or.inl ⟨by rfl, fun w => by go_simp; try with_reducible rfl⟩) ?_
              try simp only [Act.put, List.getElem_toArray, List.getElem_cons_succ, List.getElem_cons_zero, List.setIfInBounds_toArray, List.set_cons_zero, List.set_cons_succ]
              refine wpAny_take (i := 12) (v := _) rfl (by kernel_rfl) (by kernel_rfl) (by kernel_rfl) (fun _ _ _ h => h) (Or.inl ⟨by rfl, fun w => by go_simp; try with_reducible rfl⟩) ?_
              try simp only [Act.put, List.getElem_toArray, List.getElem_cons_succ, List.getElem_cons_zero, List.setIfInBounds_toArray, List.set_cons_zero, List.set_cons_succ]
              refine wpAny_take (i := 13) (v := _) rfl (by kernel_rfl) (by kernel_rfl) (by kernel_rfl) (fun _ _ _ h => h) (Or.inl ⟨by rfl, fun w => by go_simp; try with_reducible rfl⟩) ?_
              try simp only [Act.put, List.getElem_toArray, List.getElem_cons_succ, List.getElem_cons_zero, List.setIfInBounds_toArray, List.set_cons_zero, List.set_cons_succ]
              refine wpAny_take (i := 14) (v := .slice (some (if C = m + 1 then ⟨b3, o3, none⟩ else ⟨b3, o3 + (m + 1), none⟩)) (N - (m + 1)) (C - (m + 1))) rfl (by kernel_rfl) (by kernel_rfl) (by kernel_rfl) (fun _ _ _ h => h) (Or.inl ⟨by rfl, fun w => by by_cases hcm : C = m + 1 <;> go_simp <;> (try with_reducible rfl)⟩) ?_
              try simp only [Act.put, List.getElem_toArray, List.getElem_cons_succ, List.getElem_cons_zero, List.setIfInBounds_toArray, List.set_cons_zero, List.set_cons_succ]
              refine wpAny_ready (rs := [0, 9]) (by kernel_rfl) (by simp) ?_
              refine (AllReady.cons rfl (fun K hK => ?_) (AllReady.cons rfl (fun K hK => ?_) AllReady.nil))
              · go_simp
                refine hK _ _ ?_
                clear hK K
                try simp only [Act.put, List.getElem_toArray, List.getElem_cons_succ, List.getElem_cons_zero, List.setIfInBounds_toArray, List.set_cons_zero, List.set_cons_succ]
                have hM1 : Mk0 w8 (u0.alloc (.cells #[] 3)) := hM0.new _
                have hzz1 : u0.heap.size < (u0.alloc (.cells #[] 3)).heap.size := by rw [World.size_alloc]; omega
                have hA : (u0.alloc (.cells #[] 3)).ownsRow w8.heap.size 3 1 (.slice (some ⟨u0.heap.size, 0, none⟩) 0 0) 0 (([] : List Int).map (.int .i64)) := own_lowR (own_lit u0 3 [] (by simp)) hM0.size
                generalize u0.alloc (.cells #[] 3) = u1 at *
                refine wpAny_ready (rs := [4, 9]) (by kernel_rfl) (by simp) ?_
                refine (AllReady.cons rfl (fun K hK => ?_) (AllReady.cons rfl (fun K hK => ?_) AllReady.nil))
                · refine step_app (k := .i64) (by rfl) (.tmp 47) (.tmp 50) 66 (by rfl) w8.heap.size 3 i0 Try.underlying66 hi hz0 hz1 hby _ [] 0 (by rfl) hA ⟨b3, o3, none⟩ (m + 1) C (L.take (m + 1)) (by rfl) (HT.out _ hM1) (by omega) hM1.size ?_
                  intro v2 u2 ho2 hg2 hat2
                  refine hK _ _ ?_
                  clear hK K
                  try simp only [Act.put, List.getElem_toArray, List.getElem_cons_succ, List.getElem_cons_zero, List.setIfInBounds_toArray, List.set_cons_zero, List.set_cons_succ]
                  have hM2 := mk_grew hM1 hg2 (fun g e => (hA.lt g e).1)
                  clear hA
                  have hA := ho2
                  have hzz2 := hg2.size
                  refine wpAny_ready (rs := [9]) (by kernel_rfl) (by simp) ?_
                  refine (AllReady.cons rfl (fun K hK => ?_) AllReady.nil)
                  have hxc := HX.out _ hM2
                  go_simp
                  refine hK _ _ ?_
                  clear hK K
                  try simp only [Act.put, List.getElem_toArray, List.getElem_cons_succ, List.getElem_cons_zero, List.setIfInBounds_toArray, List.set_cons_zero, List.set_cons_succ]
                  clear hxc
                  refine wpAny_ready (rs := [10]) (by kernel_rfl) (by simp) ?_
                  refine (AllReady.cons rfl (fun K hK => ?_) AllReady.nil)
                  go_simp
                  refine hK _ _ ?_
                  clear hK K
                  try simp only [Act.put, List.getElem_toArray, List.getElem_cons_succ, List.getElem_cons_zero, List.setIfInBounds_toArray, List.set_cons_zero, List.set_cons_succ]
                  have hM3 : Mk0 w8 (u2.alloc (.cells #[.int .i64 x.id] 3)) := hM2.new _
                  have hzz3 : u2.heap.size < (u2.alloc (.cells #[.int .i64 x.id] 3)).heap.size := by rw [World.size_alloc]; omega
                  have cN : (u2.alloc (.cells #[.int .i64 x.id] 3)).cell? ⟨u2.heap.size, 0, none⟩ = some (.int .i64 x.id) := by simp [go_sem]
                  replace hA := hA.alloc (.cells #[.int .i64 x.id] 3)
                  generalize u2.alloc (.cells #[.int .i64 x.id] 3) = u3 at *
                  refine wpAny_ready (rs := [11]) (by kernel_rfl) (by simp) ?_
                  refine (AllReady.cons rfl (fun K hK => ?_) AllReady.nil)
                  refine step_app (k := .i64) (by rfl) (.tmp 51) (.tmp 57) 66 (by rfl) w8.heap.size 3 i0 Try.underlying66 hi hz0 hz1 hby _ ([] ++ L.take (m + 1)) (0 + (m + 1)) (by rfl) hA ⟨u2.heap.size, 0, none⟩ 1 1 [x.id] (by rfl) (has_one cN (World.block_lt_of_cell? _ _ cN)) (by omega) hM3.size ?_
                  intro v4 u4 ho4 hg4 hat4
                  refine hK _ _ ?_
                  clear hK K
                  try simp only [Act.put, List.getElem_toArray, List.getElem_cons_succ, List.getElem_cons_zero, List.setIfInBounds_toArray, List.set_cons_zero, List.set_cons_succ]
                  have hM4 := mk_grew hM3 hg4 (fun g e => (hA.lt g e).1)
                  refine wpAny_ready (rs := [15]) (by kernel_rfl) (by simp) ?_
                  refine (AllReady.cons rfl (fun K hK => ?_) AllReady.nil)
                  refine step_app (k := .i64) (by rfl) (.tmp 58) (.tmp 61) 66 (by rfl) w8.heap.size 3 i0 Try.underlying66 hi hz0 hz1 hby _ ([] ++ L.take (m + 1) ++ [x.id]) (0 + (m + 1) + 1) (by rfl) ho4 (if C = m + 1 then ⟨b3, o3, none⟩ else ⟨b3, o3 + (m + 1), none⟩) (N - (m + 1)) (C - (m + 1)) (L.drop (m + 1)) (by rfl) (HD.out _ hM4) (by omega) hM4.size ?_
                  intro v5 u5 ho5 hg5 hat5
                  refine hK _ _ ?_
                  clear hK K
                  try simp only [Act.put, List.getElem_toArray, List.getElem_cons_succ, List.getElem_cons_zero, List.setIfInBounds_toArray, List.set_cons_zero, List.set_cons_succ]
                  have hM5 := mk_grew hM4 hg5 (fun g e => (ho4.lt g e).1)
                  refine wpAny_ready (rs := [16]) (by kernel_rfl) (by simp) ?_
                  refine (AllReady.cons rfl (fun K hK => ?_) AllReady.nil)
                  go_simp
                  refine hK _ _ ?_
                  clear hK K
                  try simp only [Act.put, List.getElem_toArray, List.getElem_cons_succ, List.getElem_cons_zero, List.setIfInBounds_toArray, List.set_cons_zero, List.set_cons_succ]
                  refine wpAny_done (by kernel_rfl) ?_ _
                  obtain ⟨A3, C3, rfl, hA3, hN3⟩ := ownsRow_sliceR2 ho5
                  refine ‹∀ (a : Act) (w : World), _ → _› _ _ ?_
                  have hw3 := (ownsRow_own ho5)
                  obtain ⟨b4, o4, e4, hl4, hb4, hc4⟩ := hw3.2 (by omega)
                  subst e4
                  clear hl4 hb4 hc4
                  have HW := Lib.hid hw3
                  clear hw3 hA3 ho5
                  go_wp2_with fail
                  go_roundw
                  case rel => exact ⟨k + 1, by omega, by go_num, M08.trans hM5, b4, o4, _, C3, _, rfl, HW.out.low M08.size, hN3, by omega, Lib.hid ⟨HR.out.1, fun y => (HR.out.2 y).trans (HN.out y)⟩⟩
                  case measure => simp [intOf]; omega
                · have hxc := HX.out _ hM1
                  go_simp
                  refine hK _ _ ?_
                  clear hK K
                  try simp only [Act.put, List.getElem_toArray, List.getElem_cons_succ, List.getElem_cons_zero, List.setIfInBounds_toArray, List.set_cons_zero, List.set_cons_succ]
                  clear hxc
                  refine wpAny_ready (rs := [4, 10]) (by kernel_rfl) (by simp) ?_
                  refine (AllReady.cons rfl (fun K hK => ?_) (AllReady.cons rfl (fun K hK => ?_) AllReady.nil))
                  · refine step_app (k := .i64) (by rfl) (.tmp 47) (.tmp 50) 66 (by rfl) w8.heap.size 3 i0 Try.underlying66 hi hz0 hz1 hby _ [] 0 (by rfl) hA ⟨b3, o3, none⟩ (m + 1) C (L.take (m + 1)) (by rfl) (HT.out _ hM1) (by omega) hM1.size ?_
                    intro v2 u2 ho2 hg2 hat2
                    refine hK _ _ ?_
                    clear hK K
                    try simp only [Act.put, List.getElem_toArray, List.getElem_cons_succ, List.getElem_cons_zero, List.setIfInBounds_toArray, List.set_cons_zero, List.set_cons_succ]
                    have hM2 := mk_grew hM1 hg2 (fun g e => (hA.lt g e).1)
                    clear hA
                    have hA := ho2
                    have hzz2 := hg2.size
                    refine wpAny_ready (rs := [10]) (by kernel_rfl) (by simp) ?_
                    refine (AllReady.cons rfl (fun K hK => ?_) AllReady.nil)
                    go_simp
                    refine hK _ _ ?_
                    clear hK K
                    try simp only [Act.put, List.getElem_toArray, List.getElem_cons_succ, List.getElem_cons_zero, List.setIfInBounds_toArray, List.set_cons_zero, List.set_cons_succ]
                    have hM3 : Mk0 w8 (u2.alloc (.cells #[.int .i64 x.id] 3)) := hM2.new _
                    have hzz3 : u2.heap.size < (u2.alloc (.cells #[.int .i64 x.id] 3)).heap.size := by rw [World.size_alloc]; omega
                    have cN : (u2.alloc (.cells #[.int .i64 x.id] 3)).cell? ⟨u2.heap.size, 0, none⟩ = some (.int .i64 x.id) := by simp [go_sem]
                    replace hA := hA.alloc (.cells #[.int .i64 x.id] 3)
                    generalize u2.alloc (.cells #[.int .i64 x.id] 3) = u3 at *
                    refine wpAny_ready (rs := [11]) (by kernel_rfl) (by simp) ?_
                    refine (AllReady.cons rfl (fun K hK => ?_) AllReady.nil)
                    refine step_app (k := .i64) (by rfl) (.tmp 51) (.tmp 57) 66 (by rfl) w8.heap.size 3 i0 Try.underlying66 hi hz0 hz1 hby _ ([] ++ L.take (m + 1)) (0 + (m + 1)) (by rfl) hA ⟨u2.heap.size, 0, none⟩ 1 1 [x.id] (by rfl) (has_one cN (World.block_lt_of_cell? _ _ cN)) (by omega) hM3.size ?_
                    intro v4 u4 ho4 hg4 hat4
                    refine hK _ _ ?_
                    clear hK K
                    try simp only [Act.put, List.getElem_toArray, List.getElem_cons_succ, List.getElem_cons_zero, List.setIfInBounds_toArray, List.set_cons_zero, List.set_cons_succ]
                    have hM4 := mk_grew hM3 hg4 (fun g e => (hA.lt g e).1)
                    refine wpAny_ready (rs := [15]) (by kernel_rfl) (by simp) ?_
                    refine (AllReady.cons rfl (fun K hK => ?_) AllReady.nil)
                    refine step_app (k := .i64) (by rfl) (.tmp 58) (.tmp 61) 66 (by rfl) w8.heap.size 3 i0 Try.underlying66 hi hz0 hz1 hby _ ([] ++ L.take (m + 1) ++ [x.id]) (0 + (m + 1) + 1) (by rfl) ho4 (if C = m + 1 then ⟨b3, o3, none⟩ else ⟨b3, o3 + (m + 1), none⟩) (N - (m + 1)) (C - (m + 1)) (L.drop (m + 1)) (by rfl) (HD.out _ hM4) (by omega) hM4.size ?_
                    intro v5 u5 ho5 hg5 hat5
                    refine hK _ _ ?_
                    clear hK K
                    try simp only [Act.put, List.getElem_toArray, List.getElem_cons_succ, List.getElem_cons_zero, List.setIfInBounds_toArray, List.set_cons_zero, List.set_cons_succ]
                    have hM5 := mk_grew hM4 hg5 (fun g e => (ho4.lt g e).1)
                    refine wpAny_ready (rs := [16]) (by kernel_rfl) (by simp) ?_
                    refine (AllReady.cons rfl (fun K hK => ?_) AllReady.nil)
                    go_simp
                    refine hK _ _ ?_
                    clear hK K
                    try simp only [Act.put, List.getElem_toArray, List.getElem_cons_succ, List.getElem_cons_zero, List.setIfInBounds_toArray, List.set_cons_zero, List.set_cons_succ]
                    refine wpAny_done (by kernel_rfl) ?_ _
                    obtain ⟨A3, C3, rfl, hA3, hN3⟩ := ownsRow_sliceR2 ho5
                    refine ‹∀ (a : Act) (w : World), _ → _› _ _ ?_
                    have hw3 := (ownsRow_own ho5)
                    obtain ⟨b4, o4, e4, hl4, hb4, hc4⟩ := hw3.2 (by omega)
                    subst e4
                    clear hl4 hb4 hc4
                    have HW := Lib.hid hw3
                    clear hw3 hA3 ho5
                    go_wp2_with fail
                    go_roundw
                    case rel => exact ⟨k + 1, by omega, by go_num, M08.trans hM5, b4, o4, _, C3, _, rfl, HW.out.low M08.size, hN3, by omega, Lib.hid ⟨HR.out.1, fun y => (HR.out.2 y).trans (HN.out y)⟩⟩
                    case measure => simp [intOf]; omega
                  · go_simp
                    refine hK _ _ ?_
                    clear hK K
                    try simp only [Act.put, List.getElem_toArray, List.getElem_cons_succ, List.getElem_cons_zero, List.setIfInBounds_toArray, List.set_cons_zero, List.set_cons_succ]
                    have hM2 : Mk0 w8 (u1.alloc (.cells #[.int .i64 x.id] 3)) := hM1.new _
                    have hzz2 : u1.heap.size < (u1.alloc (.cells #[.int .i64 x.id] 3)).heap.size := by rw [World.size_alloc]; omega
                    have cN : (u1.alloc (.cells #[.int .i64 x.id] 3)).cell? ⟨u1.heap.size, 0, none⟩ = some (.int .i64 x.id) := by simp [go_sem]
                    replace hA := hA.alloc (.cells #[.int .i64 x.id] 3)
                    generalize u1.alloc (.cells #[.int .i64 x.id] 3) = u2 at *
                    refine wpAny_ready (rs := [4]) (by kernel_rfl) (by simp) ?_
                    refine (AllReady.cons rfl (fun K hK => ?_) AllReady.nil)
                    refine step_app (k := .i64) (by rfl) (.tmp 47) (.tmp 50) 66 (by rfl) w8.heap.size 3 i0 Try.underlying66 hi hz0 hz1 hby _ [] 0 (by rfl) hA ⟨b3, o3, none⟩ (m + 1) C (L.take (m + 1)) (by rfl) (HT.out _ hM2) (by omega) hM2.size ?_
                    intro v3 u3 ho3 hg3 hat3
                    refine hK _ _ ?_
                    clear hK K
                    try simp only [Act.put, List.getElem_toArray, List.getElem_cons_succ, List.getElem_cons_zero, List.setIfInBounds_toArray, List.set_cons_zero, List.set_cons_succ]
                    have hM3 := mk_grew hM2 hg3 (fun g e => (hA.lt g e).1)
                    replace cN := cell_grew hg3 cN (by simp [Value.ownBlock]; omega)
                    clear hA
                    have hA := ho3
                    have hzz3 := hg3.size
                    refine wpAny_ready (rs := [11]) (by kernel_rfl) (by simp) ?_
                    refine (AllReady.cons rfl (fun K hK => ?_) AllReady.nil)
                    refine step_app (k := .i64) (by rfl) (.tmp 51) (.tmp 57) 66 (by rfl) w8.heap.size 3 i0 Try.underlying66 hi hz0 hz1 hby _ ([] ++ L.take (m + 1)) (0 + (m + 1)) (by rfl) hA ⟨u1.heap.size, 0, none⟩ 1 1 [x.id] (by rfl) (has_one cN (World.block_lt_of_cell? _ _ cN)) (by omega) hM3.size ?_
                    intro v4 u4 ho4 hg4 hat4
                    refine hK _ _ ?_
                    clear hK K
                    try simp only [Act.put, List.getElem_toArray, List.getElem_cons_succ, List.getElem_cons_zero, List.setIfInBounds_toArray, List.set_cons_zero, List.set_cons_succ]
                    have hM4 := mk_grew hM3 hg4 (fun g e => (hA.lt g e).1)
                    refine wpAny_ready (rs := [15]) (by kernel_rfl) (by simp) ?_
                    refine (AllReady.cons rfl (fun K hK => ?_) AllReady.nil)
                    refine step_app (k := .i64) (by rfl) (.tmp 58) (.tmp 61) 66 (by rfl) w8.heap.size 3 i0 Try.underlying66 hi hz0 hz1 hby _ ([] ++ L.take (m + 1) ++ [x.id]) (0 + (m + 1) + 1) (by rfl) ho4 (if C = m + 1 then ⟨b3, o3, none⟩ else ⟨b3, o3 + (m + 1), none⟩) (N - (m + 1)) (C - (m + 1)) (L.drop (m + 1)) (by rfl) (HD.out _ hM4) (by omega) hM4.size ?_
                    intro v5 u5 ho5 hg5 hat5
                    refine hK _ _ ?_
                    clear hK K
                    try simp only [Act.put, List.getElem_toArray, List.getElem_cons_succ, List.getElem_cons_zero, List.setIfInBounds_toArray, List.set_cons_zero, List.set_cons_succ]
                    have hM5 := mk_grew hM4 hg5 (fun g e => (ho4.lt g e).1)
                    refine wpAny_ready (rs := [16]) (by kernel_rfl) (by simp) ?_
                    refine (AllReady.cons rfl (fun K hK => ?_) AllReady.nil)
                    go_simp
                    refine hK _ _ ?_
                    clear hK K
                    try simp only [Act.put, List.getElem_toArray, List.getElem_cons_succ, List.getElem_cons_zero, List.setIfInBounds_toArray, List.set_cons_zero, List.set_cons_succ]
                    refine wpAny_done (by kernel_rfl) ?_ _
                    obtain ⟨A3, C3, rfl, hA3, hN3⟩ := ownsRow_sliceR2 ho5
                    refine ‹∀ (a : Act) (w : World), _ → _› _ _ ?_
                    have hw3 := (ownsRow_own ho5)
                    obtain ⟨b4, o4, e4, hl4, hb4, hc4⟩ := hw3.2 (by omega)
                    subst e4
                    clear hl4 hb4 hc4
                    have HW := Lib.hid hw3
                    clear hw3 hA3 ho5
                    go_wp2_with fail
                    go_roundw
                    case rel => exact ⟨k + 1, by omega, by go_num, M08.trans hM5, b4, o4, _, C3, _, rfl, HW.out.low M08.size, hN3, by omega, Lib.hid ⟨HR.out.1, fun y => (HR.out.2 y).trans (HN.out y)⟩⟩
                    case measure => simp [intOf]; omega
              · have hxc := HX.out _ hM0
                go_simp
                refine hK _ _ ?_
                clear hK K
                try simp only [Act.put, List.getElem_toArray, List.getElem_cons_succ, List.getElem_cons_zero, List.setIfInBounds_toArray, List.set_cons_zero, List.set_cons_succ]
                clear hxc
                refine wpAny_ready (rs := [0, 10]) (by kernel_rfl) (by simp) ?_
                refine (AllReady.cons rfl (fun K hK => ?_) (AllReady.cons rfl (fun K hK => ?_) AllReady.nil))
                · go_simp
                  refine hK _ _ ?_
                  clear hK K
                  try simp only [Act.put, List.getElem_toArray, List.getElem_cons_succ, List.getElem_cons_zero, List.setIfInBounds_toArray, List.set_cons_zero, List.set_cons_succ]
                  have hM1 : Mk0 w8 (u0.alloc (.cells #[] 3)) := hM0.new _
                  have hzz1 : u0.heap.size < (u0.alloc (.cells #[] 3)).heap.size := by rw [World.size_alloc]; omega
                  have hA : (u0.alloc (.cells #[] 3)).ownsRow w8.heap.size 3 1 (.slice (some ⟨u0.heap.size, 0, none⟩) 0 0) 0 (([] : List Int).map (.int .i64)) := own_lowR (own_lit u0 3 [] (by simp)) hM0.size
                  generalize u0.alloc (.cells #[] 3) = u1 at *
                  refine wpAny_ready (rs := [4, 10]) (by kernel_rfl) (by simp) ?_
                  refine (AllReady.cons rfl (fun K hK => ?_) (AllReady.cons rfl (fun K hK => ?_) AllReady.nil))
                  · refine step_app (k := .i64) (by rfl) (.tmp 47) (.tmp 50) 66 (by rfl) w8.heap.size 3 i0 Try.underlying66 hi hz0 hz1 hby _ [] 0 (by rfl) hA ⟨b3, o3, none⟩ (m + 1) C (L.take (m + 1)) (by rfl) (HT.out _ hM1) (by omega) hM1.size ?_
                    intro v2 u2 ho2 hg2 hat2
                    refine hK _ _ ?_
                    clear hK K
                    try simp only [Act.put, List.getElem_toArray, List.getElem_cons_succ, List.getElem_cons_zero, List.setIfInBounds_toArray, List.set_cons_zero, List.set_cons_succ]
                    have hM2 := mk_grew hM1 hg2 (fun g e => (hA.lt g e).1)
                    clear hA
                    have hA := ho2
                    have hzz2 := hg2.size
                    refine wpAny_ready (rs := [10]) (by kernel_rfl) (by simp) ?_
                    refine (AllReady.cons rfl (fun K hK => ?_) AllReady.nil)
                    go_simp
                    refine hK _ _ ?_
                    clear hK K
                    try simp only [Act.put, List.getElem_toArray, List.getElem_cons_succ, List.getElem_cons_zero, List.setIfInBounds_toArray, List.set_cons_zero, List.set_cons_succ]
                    have hM3 : Mk0 w8 (u2.alloc (.cells #[.int .i64 x.id] 3)) := hM2.new _
                    have hzz3 : u2.heap.size < (u2.alloc (.cells #[.int .i64 x.id] 3)).heap.size := by rw [World.size_alloc]; omega
                    have cN : (u2.alloc (.cells #[.int .i64 x.id] 3)).cell? ⟨u2.heap.size, 0, none⟩ = some (.int .i64 x.id) := by simp [go_sem]
                    replace hA := hA.alloc (.cells #[.int .i64 x.id] 3)
                    generalize u2.alloc (.cells #[.int .i64 x.id] 3) = u3 at *
                    refine wpAny_ready (rs := [11]) (by kernel_rfl) (by simp) ?_
                    refine (AllReady.cons rfl (fun K hK => ?_) AllReady.nil)
                    refine step_app (k := .i64) (by rfl) (.tmp 51) (.tmp 57) 66 (by rfl) w8.heap.size 3 i0 Try.underlying66 hi hz0 hz1 hby _ ([] ++ L.take (m + 1)) (0 + (m + 1)) (by rfl) hA ⟨u2.heap.size, 0, none⟩ 1 1 [x.id] (by rfl) (has_one cN (World.block_lt_of_cell? _ _ cN)) (by omega) hM3.size ?_
                    intro v4 u4 ho4 hg4 hat4
                    refine hK _ _ ?_
                    clear hK K
                    try simp only [Act.put, List.getElem_toArray, List.getElem_cons_succ, List.getElem_cons_zero, List.setIfInBounds_toArray, List.set_cons_zero, List.set_cons_succ]
                    have hM4 := mk_grew hM3 hg4 (fun g e => (hA.lt g e).1)
                    refine wpAny_ready (rs := [15]) (by kernel_rfl) (by simp) ?_
                    refine (AllReady.cons rfl (fun K hK => ?_) AllReady.nil)
                    refine step_app (k := .i64) (by rfl) (.tmp 58) (.tmp 61) 66 (by rfl) w8.heap.size 3 i0 Try.underlying66 hi hz0 hz1 hby _ ([] ++ L.take (m + 1) ++ [x.id]) (0 + (m + 1) + 1) (by rfl) ho4 (if C = m + 1 then ⟨b3, o3, none⟩ else ⟨b3, o3 + (m + 1), none⟩) (N - (m + 1)) (C - (m + 1)) (L.drop (m + 1)) (by rfl) (HD.out _ hM4) (by omega) hM4.size ?_
                    intro v5 u5 ho5 hg5 hat5
                    refine hK _ _ ?_
                    clear hK K
                    try simp only [Act.put, List.getElem_toArray, List.getElem_cons_succ, List.getElem_cons_zero, List.setIfInBounds_toArray, List.set_cons_zero, List.set_cons_succ]
                    have hM5 := mk_grew hM4 hg5 (fun g e => (ho4.lt g e).1)
                    refine wpAny_ready (rs := [16]) (by kernel_rfl) (by simp) ?_
                    refine (AllReady.cons rfl (fun K hK => ?_) AllReady.nil)
                    go_simp
                    refine hK _ _ ?_
                    clear hK K
                    try simp only [Act.put, List.getElem_toArray, List.getElem_cons_succ, List.getElem_cons_zero, List.setIfInBounds_toArray, List.set_cons_zero, List.set_cons_succ]
                    refine wpAny_done (by kernel_rfl) ?_ _
                    obtain ⟨A3, C3, rfl, hA3, hN3⟩ := ownsRow_sliceR2 ho5
                    refine ‹∀ (a : Act) (w : World), _ → _› _ _ ?_
                    have hw3 := (ownsRow_own ho5)
                    obtain ⟨b4, o4, e4, hl4, hb4, hc4⟩ := hw3.2 (by omega)
                    subst e4
                    clear hl4 hb4 hc4
                    have HW := Lib.hid hw3
                    clear hw3 hA3 ho5
                    go_wp2_with fail
                    go_roundw
                    case rel => exact ⟨k + 1, by omega, by go_num, M08.trans hM5, b4, o4, _, C3, _, rfl, HW.out.low M08.size, hN3, by omega, Lib.hid ⟨HR.out.1, fun y => (HR.out.2 y).trans (HN.out y)⟩⟩
                    case measure => simp [intOf]; omega
                  · go_simp
                    refine hK _ _ ?_
                    clear hK K
                    try simp only [Act.put, List.getElem_toArray, List.getElem_cons_succ, List.getElem_cons_zero, List.setIfInBounds_toArray, List.set_cons_zero, List.set_cons_succ]
                    have hM2 : Mk0 w8 (u1.alloc (.cells #[.int .i64 x.id] 3)) := hM1.new _
                    have hzz2 : u1.heap.size < (u1.alloc (.cells #[.int .i64 x.id] 3)).heap.size := by rw [World.size_alloc]; omega
                    have cN : (u1.alloc (.cells #[.int .i64 x.id] 3)).cell? ⟨u1.heap.size, 0, none⟩ = some (.int .i64 x.id) := by simp [go_sem]
                    replace hA := hA.alloc (.cells #[.int .i64 x.id] 3)
                    generalize u1.alloc (.cells #[.int .i64 x.id] 3) = u2 at *
                    refine wpAny_ready (rs := [4]) (by kernel_rfl) (by simp) ?_
                    refine (AllReady.cons rfl (fun K hK => ?_) AllReady.nil)
                    refine step_app (k := .i64) (by rfl) (.tmp 47) (.tmp 50) 66 (by rfl) w8.heap.size 3 i0 Try.underlying66 hi hz0 hz1 hby _ [] 0 (by rfl) hA ⟨b3, o3, none⟩ (m + 1) C (L.take (m + 1)) (by rfl) (HT.out _ hM2) (by omega) hM2.size ?_
                    intro v3 u3 ho3 hg3 hat3
                    refine hK _ _ ?_
                    clear hK K
                    try simp only [Act.put, List.getElem_toArray, List.getElem_cons_succ, List.getElem_cons_zero, List.setIfInBounds_toArray, List.set_cons_zero, List.set_cons_succ]
                    have hM3 := mk_grew hM2 hg3 (fun g e => (hA.lt g e).1)
                    replace cN := cell_grew hg3 cN (by simp [Value.ownBlock]; omega)
                    clear hA
                    have hA := ho3
                    have hzz3 := hg3.size
                    refine wpAny_ready (rs := [11]) (by kernel_rfl) (by simp) ?_
                    refine (AllReady.cons rfl (fun K hK => ?_) AllReady.nil)
                    refine step_app (k := .i64) (by rfl) (.tmp 51) (.tmp 57) 66 (by rfl) w8.heap.size 3 i0 Try.underlying66 hi hz0 hz1 hby _ ([] ++ L.take (m + 1)) (0 + (m + 1)) (by rfl) hA ⟨u1.heap.size, 0, none⟩ 1 1 [x.id] (by rfl) (has_one cN (World.block_lt_of_cell? _ _ cN)) (by omega) hM3.size ?_
                    intro v4 u4 ho4 hg4 hat4
                    refine hK _ _ ?_
                    clear hK K
                    try simp only [Act.put, List.getElem_toArray, List.getElem_cons_succ, List.getElem_cons_zero, List.setIfInBounds_toArray, List.set_cons_zero, List.set_cons_succ]
                    have hM4 := mk_grew hM3 hg4 (fun g e => (hA.lt g e).1)
                    refine wpAny_ready (rs := [15]) (by kernel_rfl) (by simp) ?_
                    refine (AllReady.cons rfl (fun K hK => ?_) AllReady.nil)
                    refine step_app (k := .i64) (by rfl) (.tmp 58) (.tmp 61) 66 (by rfl) w8.heap.size 3 i0 Try.underlying66 hi hz0 hz1 hby _ ([] ++ L.take (m + 1) ++ [x.id]) (0 + (m + 1) + 1) (by rfl) ho4 (if C = m + 1 then ⟨b3, o3, none⟩ else ⟨b3, o3 + (m + 1), none⟩) (N - (m + 1)) (C - (m + 1)) (L.drop (m + 1)) (by rfl) (HD.out _ hM4) (by omega) hM4.size ?_
                    intro v5 u5 ho5 hg5 hat5
                    refine hK _ _ ?_
                    clear hK K
                    try simp only [Act.put, List.getElem_toArray, List.getElem_cons_succ, List.getElem_cons_zero, List.setIfInBounds_toArray, List.set_cons_zero, List.set_cons_succ]
                    have hM5 := mk_grew hM4 hg5 (fun g e => (ho4.lt g e).1)
                    refine wpAny_ready (rs := [16]) (by kernel_rfl) (by simp) ?_
                    refine (AllReady.cons rfl (fun K hK => ?_) AllReady.nil)
                    go_simp
                    refine hK _ _ ?_
                    clear hK K
                    try simp only [Act.put, List.getElem_toArray, List.getElem_cons_succ, List.getElem_cons_zero, List.setIfInBounds_toArray, List.set_cons_zero, List.set_cons_succ]
                    refine wpAny_done (by kernel_rfl) ?_ _
                    obtain ⟨A3, C3, rfl, hA3, hN3⟩ := ownsRow_sliceR2 ho5
                    refine ‹∀ (a : Act) (w : World), _ → _› _ _ ?_
                    have hw3 := (ownsRow_own ho5)
                    obtain ⟨b4, o4, e4, hl4, hb4, hc4⟩ := hw3.2 (by omega)
                    subst e4
                    clear hl4 hb4 hc4
                    have HW := Lib.hid hw3
                    clear hw3 hA3 ho5
                    go_wp2_with fail
                    go_roundw
                    case rel => exact ⟨k + 1, by omega, by go_num, M08.trans hM5, b4, o4, _, C3, _, rfl, HW.out.low M08.size, hN3, by omega, Lib.hid ⟨HR.out.1, fun y => (HR.out.2 y).trans (HN.out y)⟩⟩
                    case measure => simp [intOf]; omega
                · go_simp
                  refine hK _ _ ?_
                  clear hK K
                  try simp only [Act.put, List.getElem_toArray, List.getElem_cons_succ, List.getElem_cons_zero, List.setIfInBounds_toArray, List.set_cons_zero, List.set_cons_succ]
                  have hM1 : Mk0 w8 (u0.alloc (.cells #[.int .i64 x.id] 3)) := hM0.new _
                  have hzz1 : u0.heap.size < (u0.alloc (.cells #[.int .i64 x.id] 3)).heap.size := by rw [World.size_alloc]; omega
                  have cN : (u0.alloc (.cells #[.int .i64 x.id] 3)).cell? ⟨u0.heap.size, 0, none⟩ = some (.int .i64 x.id) := by simp [go_sem]
                  generalize u0.alloc (.cells #[.int .i64 x.id] 3) = u1 at *
                  refine wpAny_ready (rs := [0]) (by kernel_rfl) (by simp) ?_
                  refine (AllReady.cons rfl (fun K hK => ?_) AllReady.nil)
                  go_simp
                  refine hK _ _ ?_
                  clear hK K
                  try simp only [Act.put, List.getElem_toArray, List.getElem_cons_succ, List.getElem_cons_zero, List.setIfInBounds_toArray, List.set_cons_zero, List.set_cons_succ]
                  have hM2 : Mk0 w8 (u1.alloc (.cells #[] 3)) := hM1.new _
                  have hzz2 : u1.heap.size < (u1.alloc (.cells #[] 3)).heap.size := by rw [World.size_alloc]; omega
                  have hA : (u1.alloc (.cells #[] 3)).ownsRow w8.heap.size 3 1 (.slice (some ⟨u1.heap.size, 0, none⟩) 0 0) 0 (([] : List Int).map (.int .i64)) := own_lowR (own_lit u1 3 [] (by simp)) hM1.size
                  replace cN := (Mk.alloc u1 (.cells #[] 3)).cellAt cN
                  generalize u1.alloc (.cells #[] 3) = u2 at *
                  refine wpAny_ready (rs := [4]) (by kernel_rfl) (by simp) ?_
                  refine (AllReady.cons rfl (fun K hK => ?_) AllReady.nil)
                  refine step_app (k := .i64) (by rfl) (.tmp 47) (.tmp 50) 66 (by rfl) w8.heap.size 3 i0 Try.underlying66 hi hz0 hz1 hby _ [] 0 (by rfl) hA ⟨b3, o3, none⟩ (m + 1) C (L.take (m + 1)) (by rfl) (HT.out _ hM2) (by omega) hM2.size ?_
                  intro v3 u3 ho3 hg3 hat3
                  refine hK _ _ ?_
                  clear hK K
                  try simp only [Act.put, List.getElem_toArray, List.getElem_cons_succ, List.getElem_cons_zero, List.setIfInBounds_toArray, List.set_cons_zero, List.set_cons_succ]
                  have hM3 := mk_grew hM2 hg3 (fun g e => (hA.lt g e).1)
                  replace cN := cell_grew hg3 cN (by simp [Value.ownBlock]; omega)
                  clear hA
                  have hA := ho3
                  have hzz3 := hg3.size
                  refine wpAny_ready (rs := [11]) (by kernel_rfl) (by simp) ?_
                  refine (AllReady.cons rfl (fun K hK => ?_) AllReady.nil)
                  refine step_app (k := .i64) (by rfl) (.tmp 51) (.tmp 57) 66 (by rfl) w8.heap.size 3 i0 Try.underlying66 hi hz0 hz1 hby _ ([] ++ L.take (m + 1)) (0 + (m + 1)) (by rfl) hA ⟨u0.heap.size, 0, none⟩ 1 1 [x.id] (by rfl) (has_one cN (World.block_lt_of_cell? _ _ cN)) (by omega) hM3.size ?_
                  intro v4 u4 ho4 hg4 hat4
                  refine hK _ _ ?_
                  clear hK K
                  try simp only [Act.put, List.getElem_toArray, List.getElem_cons_succ, List.getElem_cons_zero, List.setIfInBounds_toArray, List.set_cons_zero, List.set_cons_succ]
                  have hM4 := mk_grew hM3 hg4 (fun g e => (hA.lt g e).1)
                  refine wpAny_ready (rs := [15]) (by kernel_rfl) (by simp) ?_
                  refine (AllReady.cons rfl (fun K hK => ?_) AllReady.nil)
                  refine step_app (k := .i64) (by rfl) (.tmp 58) (.tmp 61) 66 (by rfl) w8.heap.size 3 i0 Try.underlying66 hi hz0 hz1 hby _ ([] ++ L.take (m + 1) ++ [x.id]) (0 + (m + 1) + 1) (by rfl) ho4 (if C = m + 1 then ⟨b3, o3, none⟩ else ⟨b3, o3 + (m + 1), none⟩) (N - (m + 1)) (C - (m + 1)) (L.drop (m + 1)) (by rfl) (HD.out _ hM4) (by omega) hM4.size ?_
                  intro v5 u5 ho5 hg5 hat5
                  refine hK _ _ ?_
                  clear hK K
                  try simp only [Act.put, List.getElem_toArray, List.getElem_cons_succ, List.getElem_cons_zero, List.setIfInBounds_toArray, List.set_cons_zero, List.set_cons_succ]
                  have hM5 := mk_grew hM4 hg5 (fun g e => (ho4.lt g e).1)
                  refine wpAny_ready (rs := [16]) (by kernel_rfl) (by simp) ?_
                  refine (AllReady.cons rfl (fun K hK => ?_) AllReady.nil)
                  go_simp
                  refine hK _ _ ?_
                  clear hK K
                  try simp only [Act.put, List.getElem_toArray, List.getElem_cons_succ, List.getElem_cons_zero, List.setIfInBounds_toArray, List.set_cons_zero, List.set_cons_succ]
                  refine wpAny_done (by kernel_rfl) ?_ _
                  obtain ⟨A3, C3, rfl, hA3, hN3⟩ := ownsRow_sliceR2 ho5
                  refine ‹∀ (a : Act) (w : World), _ → _› _ _ ?_
                  have hw3 := (ownsRow_own ho5)
                  obtain ⟨b4, o4, e4, hl4, hb4, hc4⟩ := hw3.2 (by omega)
                  subst e4
                  clear hl4 hb4 hc4
                  have HW := Lib.hid hw3
                  clear hw3 hA3 ho5
                  go_wp2_with fail
                  go_roundw
                  case rel => exact ⟨k + 1, by omega, by go_num, M08.trans hM5, b4, o4, _, C3, _, rfl, HW.out.low M08.size, hN3, by omega, Lib.hid ⟨HR.out.1, fun y => (HR.out.2 y).trans (HN.out y)⟩⟩
                  case measure => simp [intOf]; omega
            · have q2' : (y != x.id) = false := by simp only [bne, q2]; rfl
              have hyx2 : y = x.id := by simpa using q2
              have HE := Lib.hid (show ∀ y', (y' = x.id ∨ y' ∈ L) ↔ y' ∈ L from fun y' => ⟨fun hh => hh.elim (fun e => by rw [e, ← hyx2, hy.out, List.getD_eq_getElem?_getD, List.getElem?_eq_getElem (by rw [HLn.out]; exact hmN)]; exact List.getElem_mem _) id, .inr⟩)
              clear q2 hyx hyx2
              go_wp2_with fail
              refine wp_region_wk (fun w' => Mk0 wr w' ∧ w'.cell? ⟨b, off + k * 5, none⟩ = some (.int .i64 x.id) ∧ w'.cell? ⟨b3, o3 + m, none⟩ = some (.int .i64 y)) (by kernel_rfl) (by kernel_rfl) (⟨Mk.drew1 _, d0, cy⟩) ?_
              change Wk _ _ _ _ 15 0 _
              first | (refine Wk.skip (m := 14) (k := 0) rfl (by rfl) ?_) | (refine Wk.step (m := 14) (k := 0) (v := _) rfl (by rfl) (fun wv hS => by obtain ⟨s0, s1, s2⟩ := hS; go_simp; try with_reducible rfl) ?_)
              try simp only [Act.put, List.getElem_toArray, List.getElem_cons_zero, List.setIfInBounds_toArray, List.set_cons_zero, List.set_cons_succ]
              first | (refine Wk.skip (m := 13) (k := 1) rfl (by rfl) ?_) | (refine Wk.step (m := 13) (k := 1) (v := _) rfl (by rfl) (fun wv hS => by obtain ⟨s0, s1, s2⟩ := hS; go_simp; try with_reducible rfl) ?_)
              try simp only [Act.put, List.getElem_toArray, List.getElem_cons_succ, List.getElem_cons_zero, List.setIfInBounds_toArray, List.set_cons_zero, List.set_cons_succ]
              first | (refine Wk.skip (m := 12) (k := 2) rfl (by rfl) ?_) | (refine Wk.step (m := 12) (k := 2) (v := _) rfl (by rfl) (fun wv hS => by obtain ⟨s0, s1, s2⟩ := hS; go_simp; try with_reducible rfl) ?_)
              try simp only [Act.put, List.getElem_toArray, List.getElem_cons_succ, List.getElem_cons_zero, List.setIfInBounds_toArray, List.set_cons_zero, List.set_cons_succ]
              first | (refine Wk.skip (m := 11) (k := 3) rfl (by rfl) ?_) | (refine Wk.step (m := 11) (k := 3) (v := _) rfl (by rfl) (fun wv hS => by obtain ⟨s0, s1, s2⟩ := hS; go_simp; try with_reducible rfl) ?_)
              try simp only [Act.put, List.getElem_toArray, List.getElem_cons_succ, List.getElem_cons_zero, List.setIfInBounds_toArray, List.set_cons_zero, List.set_cons_succ]
              first | (refine Wk.skip (m := 10) (k := 4) rfl (by rfl) ?_) | (refine Wk.step (m := 10) (k := 4) (v := _) rfl (by rfl) (fun wv hS => by obtain ⟨s0, s1, s2⟩ := hS; go_simp; try with_reducible rfl) ?_)
              try simp only [Act.put, List.getElem_toArray, List.getElem_cons_succ, List.getElem_cons_zero, List.setIfInBounds_toArray, List.set_cons_zero, List.set_cons_succ]
              first | (refine Wk.skip (m := 9) (k := 5) rfl (by rfl) ?_) | (refine Wk.step (m := 9) (k := 5) (v := _) rfl (by rfl) (fun wv hS => by obtain ⟨s0, s1, s2⟩ := hS; go_simp; try with_reducible rfl) ?_)
              try simp only [Act.put, List.getElem_toArray, List.getElem_cons_succ, List.getElem_cons_zero, List.setIfInBounds_toArray, List.set_cons_zero, List.set_cons_succ]
              first | (refine Wk.skip (m := 8) (k := 6) rfl (by rfl) ?_) | (refine Wk.step (m := 8) (k := 6) (v := _) rfl (by rfl) (fun wv hS => by obtain ⟨s0, s1, s2⟩ := hS; go_simp; try with_reducible rfl) ?_)
              try simp only [Act.put, List.getElem_toArray, List.getElem_cons_succ, List.getElem_cons_zero, List.setIfInBounds_toArray, List.set_cons_zero, List.set_cons_succ]
              first | (refine Wk.skip (m := 7) (k := 7) rfl (by rfl) ?_) | (refine Wk.step (m := 7) (k := 7) (v := _) rfl (by rfl) (fun wv hS => by obtain ⟨s0, s1, s2⟩ := hS; go_simp; try with_reducible rfl) ?_)
              try simp only [Act.put, List.getElem_toArray, List.getElem_cons_succ, List.getElem_cons_zero, List.setIfInBounds_toArray, List.set_cons_zero, List.set_cons_succ]
              first | (refine Wk.skip (m := 6) (k := 8) rfl (by rfl) ?_) | (refine Wk.step (m := 6) (k := 8) (v := _) rfl (by rfl) (fun wv hS => by obtain ⟨s0, s1, s2⟩ := hS; go_simp; try with_reducible rfl) ?_)
              try simp only [Act.put, List.getElem_toArray, List.getElem_cons_succ, List.getElem_cons_zero, List.setIfInBounds_toArray, List.set_cons_zero, List.set_cons_succ]
              first | (refine Wk.skip (m := 5) (k := 9) rfl (by rfl) ?_) | (refine Wk.step (m := 5) (k := 9) (v := _) rfl (by rfl) (fun wv hS => by obtain ⟨s0, s1, s2⟩ := hS; go_simp; try with_reducible rfl) ?_)
              try simp only [Act.put, List.getElem_toArray, List.getElem_cons_succ, List.getElem_cons_zero, List.setIfInBounds_toArray, List.set_cons_zero, List.set_cons_succ]
              first | (refine Wk.skip (m := 4) (k := 10) rfl (by rfl) ?_) | (refine Wk.step (m := 4) (k := 10) (v := _) rfl (by rfl) (fun wv hS => by obtain ⟨s0, s1, s2⟩ := hS; go_simp; try with_reducible rfl) ?_)
              try simp only [Act.put, List.getElem_toArray, List.getElem_cons_succ, List.getElem_cons_zero, List.setIfInBounds_toArray, List.set_cons_zero, List.set_cons_succ]
              first | (refine Wk.skip (m := 3) (k := 11) rfl (by rfl) ?_) | (refine Wk.step (m := 3) (k := 11) (v := _) rfl (by rfl) (fun wv hS => by obtain ⟨s0, s1, s2⟩ := hS; go_simp; try with_reducible rfl) ?_)
              try simp only [Act.put, List.getElem_toArray, List.getElem_cons_succ, List.getElem_cons_zero, List.setIfInBounds_toArray, List.set_cons_zero, List.set_cons_succ]
              first | (refine Wk.skip (m := 2) (k := 12) rfl (by rfl) ?_) | (refine Wk.step (m := 2) (k := 12) (v := _) rfl (by rfl) (fun wv hS => by obtain ⟨s0, s1, s2⟩ := hS; go_simp; try with_reducible rfl) ?_)
              try simp only [Act.put, List.getElem_toArray, List.getElem_cons_succ, List.getElem_cons_zero, List.setIfInBounds_toArray, List.set_cons_zero, List.set_cons_succ]
              first | (refine Wk.skip (m := 1) (k := 13) rfl (by rfl) ?_) | (refine Wk.step (m := 1) (k := 13) (v := _) rfl (by rfl) (fun wv hS => by obtain ⟨s0, s1, s2⟩ := hS; go_simp; try with_reducible rfl) ?_)
              try simp only [Act.put, List.getElem_toArray, List.getElem_cons_succ, List.getElem_cons_zero, List.setIfInBounds_toArray, List.set_cons_zero, List.set_cons_succ]
              first | (refine Wk.skip (m := 0) (k := 14) rfl (by rfl) ?_) | (refine Wk.step (m := 0) (k := 14) (v := _) rfl (by rfl) (fun wv hS => by obtain ⟨s0, s1, s2⟩ := hS; go_simp; try with_reducible rfl) ?_)
              try simp only [Act.put, List.getElem_toArray, List.getElem_cons_succ, List.getElem_cons_zero, List.setIfInBounds_toArray, List.set_cons_zero, List.set_cons_succ]
              refine Wk.done fun w6 h6 => ?_
              clear d0 cy
              obtain ⟨m6, d0, cy⟩ := h6
              go_wp2_with fail
              refine wp_region_wk (fun w' => Mk0 w6 w' ∧ w'.cell? ⟨b, off + k * 5, none⟩ = some (.int .i64 x.id) ∧ w'.cell? ⟨b3, o3 + m, none⟩ = some (.int .i64 y)) (by kernel_rfl) (by kernel_rfl) (⟨Mk.drew1 _, d0, cy⟩) ?_
              change Wk _ _ _ _ 15 0 _
              first | (refine Wk.skip (m := 14) (k := 0) rfl (by rfl) ?_) | (refine Wk.step (m := 14) (k := 0) (v := _) rfl (by rfl) (fun wv hS => by obtain ⟨s0, s1, s2⟩ := hS; go_simp; try with_reducible rfl) ?_)
              try simp only [Act.put, List.getElem_toArray, List.getElem_cons_zero, List.setIfInBounds_toArray, List.set_cons_zero, List.set_cons_succ]
              first | (refine Wk.skip (m := 13) (k := 1) rfl (by rfl) ?_) | (refine Wk.step (m := 13) (k := 1) (v := _) rfl (by rfl) (fun wv hS => by obtain ⟨s0, s1, s2⟩ := hS; go_simp; try with_reducible rfl) ?_)
              try simp only [Act.put, List.getElem_toArray, List.getElem_cons_succ, List.getElem_cons_zero, List.setIfInBounds_toArray, List.set_cons_zero, List.set_cons_succ]
              first | (refine Wk.skip (m := 12) (k := 2) rfl (by rfl) ?_) | (refine Wk.step (m := 12) (k := 2) (v := _) rfl (by rfl) (fun wv hS => by obtain ⟨s0, s1, s2⟩ := hS; go_simp; try with_reducible rfl) ?_)
              try simp only [Act.put, List.getElem_toArray, List.getElem_cons_succ, List.getElem_cons_zero, List.setIfInBounds_toArray, List.set_cons_zero, List.set_cons_succ]
              first | (refine Wk.skip (m := 11) (k := 3) rfl (by rfl) ?_) | (refine Wk.step (m := 11) (k := 3) (v := _) rfl (by rfl) (fun wv hS => by obtain ⟨s0, s1, s2⟩ := hS; go_simp; try with_reducible rfl) ?_)
              try simp only [Act.put, List.getElem_toArray, List.getElem_cons_succ, List.getElem_cons_zero, List.setIfInBounds_toArray, List.set_cons_zero, List.set_cons_succ]
              first | (refine Wk.skip (m := 10) (k := 4) rfl (by rfl) ?_) | (refine Wk.step (m := 10) (k := 4) (v := _) rfl (by rfl) (fun wv hS => by obtain ⟨s0, s1, s2⟩ := hS; go_simp; try with_reducible rfl) ?_)
              try simp only [Act.put, List.getElem_toArray, List.getElem_cons_succ, List.getElem_cons_zero, List.setIfInBounds_toArray, List.set_cons_zero, List.set_cons_succ]
              first | (refine Wk.skip (m := 9) (k := 5) rfl (by rfl) ?_) | (refine Wk.step (m := 9) (k := 5) (v := _) rfl (by rfl) (fun wv hS => by obtain ⟨s0, s1, s2⟩ := hS; go_simp; try with_reducible rfl) ?_)
              try simp only [Act.put, List.getElem_toArray, List.getElem_cons_succ, List.getElem_cons_zero, List.setIfInBounds_toArray, List.set_cons_zero, List.set_cons_succ]
              first | (refine Wk.skip (m := 8) (k := 6) rfl (by rfl) ?_) | (refine Wk.step (m := 8) (k := 6) (v := _) rfl (by rfl) (fun wv hS => by obtain ⟨s0, s1, s2⟩ := hS; go_simp; try with_reducible rfl) ?_)
              try simp only [Act.put, List.getElem_toArray, List.getElem_cons_succ, List.getElem_cons_zero, List.setIfInBounds_toArray, List.set_cons_zero, List.set_cons_succ]
              first | (refine Wk.skip (m := 7) (k := 7) rfl (by rfl) ?_) | (refine Wk.step (m := 7) (k := 7) (v := _) rfl (by rfl) (fun wv hS => by obtain ⟨s0, s1, s2⟩ := hS; go_simp; try with_reducible rfl) ?_)
              try simp only [Act.put, List.getElem_toArray, List.getElem_cons_succ, List.getElem_cons_zero, List.setIfInBounds_toArray, List.set_cons_zero, List.set_cons_succ]
              first | (refine Wk.skip (m := 6) (k := 8) rfl (by rfl) ?_) | (refine Wk.step (m := 6) (k := 8) (v := _) rfl (by rfl) (fun wv hS => by obtain ⟨s0, s1, s2⟩ := hS; go_simp; try with_reducible rfl) ?_)
              try simp only [Act.put, List.getElem_toArray, List.getElem_cons_succ, List.getElem_cons_zero, List.setIfInBounds_toArray, List.set_cons_zero, List.set_cons_succ]
              first | (refine Wk.skip (m := 5) (k := 9) rfl (by rfl) ?_) | (refine Wk.step (m := 5) (k := 9) (v := _) rfl (by rfl) (fun wv hS => by obtain ⟨s0, s1, s2⟩ := hS; go_simp; try with_reducible rfl) ?_)
              try simp only [Act.put, List.getElem_toArray, List.getElem_cons_succ, List.getElem_cons_zero, List.setIfInBounds_toArray, List.set_cons_zero, List.set_cons_succ]
              first | (refine Wk.skip (m := 4) (k := 10) rfl (by rfl) ?_) | (refine Wk.step (m := 4) (k := 10) (v := _) rfl (by rfl) (fun wv hS => by obtain ⟨s0, s1, s2⟩ := hS; go_simp; try with_reducible rfl) ?_)
              try simp only [Act.put, List.getElem_toArray, List.getElem_cons_succ, List.getElem_cons_zero, List.setIfInBounds_toArray, List.set_cons_zero, List.set_cons_succ]
              first | (refine Wk.skip (m := 3) (k := 11) rfl (by rfl) ?_) | (refine Wk.step (m := 3) (k := 11) (v := _) rfl (by rfl) (fun wv hS => by obtain ⟨s0, s1, s2⟩ := hS; go_simp; try with_reducible rfl) ?_)
              try simp only [Act.put, List.getElem_toArray, List.getElem_cons_succ, List.getElem_cons_zero, List.setIfInBounds_toArray, List.set_cons_zero, List.set_cons_succ]
              first | (refine Wk.skip (m := 2) (k := 12) rfl (by rfl) ?_) | (refine Wk.step (m := 2) (k := 12) (v := _) rfl (by rfl) (fun wv hS => by obtain ⟨s0, s1, s2⟩ := hS; go_simp; try with_reducible rfl) ?_)
              try simp only [Act.put, List.getElem_toArray, List.getElem_cons_succ, List.getElem_cons_zero, List.setIfInBounds_toArray, List.set_cons_zero, List.set_cons_succ]
              first | (refine Wk.skip (m := 1) (k := 13) rfl (by rfl) ?_) | (refine Wk.step (m := 1) (k := 13) (v := _) rfl (by rfl) (fun wv hS => by obtain ⟨s0, s1, s2⟩ := hS; go_simp; try with_reducible rfl) ?_)
              try simp only [Act.put, List.getElem_toArray, List.getElem_cons_succ, List.getElem_cons_zero, List.setIfInBounds_toArray, List.set_cons_zero, List.set_cons_succ]
              first | (refine Wk.skip (m := 0) (k := 14) rfl (by rfl) ?_) | (refine Wk.step (m := 0) (k := 14) (v := _) rfl (by rfl) (fun wv hS => by obtain ⟨s0, s1, s2⟩ := hS; go_simp; try with_reducible rfl) ?_)
              try simp only [Act.put, List.getElem_toArray, List.getElem_cons_succ, List.getElem_cons_zero, List.setIfInBounds_toArray, List.set_cons_zero, List.set_cons_succ]
              refine Wk.done fun w8 h8 => ?_
              clear d0 cy
              obtain ⟨m8, d0, cy⟩ := h8
              go_wp2_with fail
              go_roundw
              case rel => exact ⟨k + 1, by omega, by go_num, (hMw.trans m6).trans m8, b3, o3, N, C, L, rfl, own_mk0 hOw.out (m6.trans m8), hNC, by omega, Lib.hid ⟨hS.out.1, fun y' => (HE.out y').symm.trans (HN.out y')⟩⟩
              case measure => simp [intOf]; omega
    · obtain rfl : k = n := by omega
      have HU := Lib.hid (SL_ext hS.out.1 (uniqL_SL _) (fun y => (hS.out.2 y).trans (uniqL_mem _ y).symm))
      go_wp2_with fail
      go_ret
      exact ⟨_, N, C, rfl, (fun h => by cases h), by rw [← HU.out]; exact hO, hM.below0⟩

set_option maxRecDepth 100000 in
set_option maxHeartbeats 4000000 in
theorem implRids (a : Option Addr) (n c B : Nat) (zs : List TReservation) (w : World) (h : HasReservation w B a n zs) (hB : B ≤ w.heap.size) (hn : n ≤ 1048576) :
    Calls Try.prog 50 #[.slice a n c] w (OutR .i64 w (uniqL (ridUp zs n))) := by
  obtain ⟨i0, hi, hz0, hz1, hz2⟩ := info_parts infoI64
  have hby : i0.bytes ≤ 8 := by rw [hz2]; decide
  have M0 := Mk.alloc w (.cells #[] 3)
  have hA : (w.alloc (.cells #[] 3)).ownsRow w.heap.size 3 1 (.slice (some ⟨w.heap.size, 0, none⟩) 0 0) 0 (([] : List Int).map (.int .i64)) := own_lit w 3 [] (by simp)
  go_enter Try.func50, Try.ntmps50
  go_wp2_with fail
  go_loopw [3, 9] (fun v i wr => ∃ k : Nat, k ≤ n ∧ i = .int .i64 k ∧ wr.ownsRow w.heap.size 3 1 v (ridUp zs k).length ((ridUp zs k).map (.int .i64)) ∧ Mk0 w wr) (fun _ i _ => n - (intOf i).toNat)
  case atStart => exact ⟨0, Nat.zero_le _, rfl, hA, M0⟩
  case round =>
    clear hA M0
    obtain ⟨k, hk, rfl, hown, hM⟩ := hrel
    have hul := ridUp_len zs k
    by_cases hlt : k < n
    · obtain ⟨b, off, x, rfl, hb, hx, d0, d1, d2, d3, d4⟩ := HasReservation.at _ _ _ _ _ _ (h.mk hM hB (.inr (Nat.le_refl _))) hlt
      have hbr := World.block_lt_of_cell? _ _ d0
      simp only at hbr
      have i1 : (0 : Int) ≤ (k : Int) := by omega
      have i2 : (k : Int) < (n : Int) := by omega
      have MX := Mk.alloc wr (Obj.cells #[Value.int .i64 x.id, Value.int .i64 x.nd, Value.int .i64 x.ifc, Value.int .i64 x.rate, Value.int .i64 x.til] 59)
      have q0 : (wr.alloc (Obj.cells #[Value.int .i64 x.id, Value.int .i64 x.nd, Value.int .i64 x.ifc, Value.int .i64 x.rate, Value.int .i64 x.til] 59)).cell? ⟨wr.heap.size, 0, none⟩ = some (.int .i64 x.id) := by simp [go_sem]
      have HE := Lib.hid (show ridUp zs (k + 1) = ridUp zs k ++ [x.id] by rw [ridUp, ← hx.out])
      obtain ⟨L, hL⟩ : ∃ L, Hid (L = ridUp zs k) := ⟨_, Lib.hid rfl⟩
      rw [← hL.out] at hown hul HE
      have hn1' := has_new .i64 (wr.alloc (Obj.cells #[Value.int .i64 x.id, Value.int .i64 x.nd, Value.int .i64 x.ifc, Value.int .i64 x.rate, Value.int .i64 x.til] 59)) 3 x.id
      rw [World.size_alloc wr] at hn1'
      have MA := Mk.alloc (wr.alloc (Obj.cells #[Value.int .i64 x.id, Value.int .i64 x.nd, Value.int .i64 x.ifc, Value.int .i64 x.rate, Value.int .i64 x.til] 59)) (.cells #[.int .i64 x.id] 3)
      have ho' := own_keptR (own_keptR hown MX) MA
      have hlo' : w.heap.size ≤ ((wr.alloc (Obj.cells #[Value.int .i64 x.id, Value.int .i64 x.nd, Value.int .i64 x.ifc, Value.int .i64 x.rate, Value.int .i64 x.til] 59)).alloc (.cells #[.int .i64 x.id] 3)).heap.size := by have := hM.size; rw [World.size_alloc, World.size_alloc]; omega
      go_wp2_with (at_builtin; refine wpList_app rfl (.tmp 13) (.tmp 16) 66 rfl _ 3 i0 Try.underlying66 hi hz0 hz1 hby _ L L.length rfl ho' _ 1 1 [x.id] rfl (fun h => by cases h) hn1' (by omega) hlo' ?_; intro v3 w3 ho3 hg3 _)
      have M3 := (hM.trans (MX.trans MA)).appR hg3 (fun g hg => (ho'.lt g hg).1)
      go_wp2_with fail
      go_roundw
      case rel => exact ⟨k + 1, by omega, by go_num, by rw [HE.out, List.length_append]; exact ho3, M3⟩
      case measure => simp [intOf]; omega
    · obtain rfl : k = n := by omega
      obtain ⟨A, C, rfl, hA, hNC⟩ := ownsRow_sliceR2 hown
      have hO := ownsRow_own hown
      clear hown
      have hb : (ridUp zs k).length ≤ 1073741824 := by omega
      obtain ⟨N, hN⟩ : ∃ N, Hid (N = (ridUp zs k).length) := ⟨_, Lib.hid rfl⟩
      rw [← hN.out] at hO hNC hb ⊢
      clear hul
      go_wp2_with fail
      refine (implSort A N C w.heap.size _ _ hO hb).mono ?_
      rintro e w2 ⟨rfl, hO2, m2⟩
      go_wp2_with fail
      refine (implCompact A N C w.heap.size _ _ hO2 hb hNC).mono ?_
      rintro e w3 ⟨rfl, hO3, m3⟩
      obtain ⟨P, hP⟩ : ∃ P, Hid (P = (Lib.compact (sortL (ridUp zs k))).length) := ⟨_, Lib.hid rfl⟩
      rw [← hP.out] at hO3 ⊢
      go_wp2_with fail
      go_ret
      exact ⟨A, P, C, rfl, hA, hO3, Mk.below0 ((hM.andR m2 (.inl (Nat.le_refl _))).andR m3 (.inl (Nat.le_refl _)))⟩

end Go.Proofs.Ytdbaecgbhadkbaa
