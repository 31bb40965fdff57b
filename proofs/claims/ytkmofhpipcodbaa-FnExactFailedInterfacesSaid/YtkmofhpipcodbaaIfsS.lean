
/- Interfaces of the model. -/
import Derived.Test.YtkmofhpipcodbaaIfsM
import Derived.Test.YtkmofhpipcodbaaPut5
import Derived.Test.YtkmofhpipcodbaaCTopology
namespace Go.Proofs.Ytkmofhpipcodbaa
open Go.ChangeShapes Go.WideShapes Go.ChangeAt Go.RowKit
set_option linter.unusedVariables false
set_option maxRecDepth 100000 in
set_option maxHeartbeats 4000000 in
theorem specIfs (a0 a1 : Option Addr) (n0 c0 n1 c1 B : Nat) (zl : List TLink) (r : Int) (w : World) (hl : HasLink w B a1 n1 zl) (hB : B ≤ w.heap.size) (hn1 : n1 ≤ 1048576) :
    Calls Try.prog 53 #[.agg #[.slice a0 n0 c0, .slice a1 n1 c1], .int .i64 r] w (OutIfs w (uniqL (ifUp zl r n1))) := by
  have M0 := Mk.alloc w (Obj.cells #[Value.slice a0 n0 c0, Value.slice a1 n1 c1] 43)
  have k1 : (w.alloc (Obj.cells #[Value.slice a0 n0 c0, Value.slice a1 n1 c1] 43)).cell? ⟨w.heap.size, 1, none⟩ = some (.slice a1 n1 c1) := by simp [go_sem]
  have hs1 : (w.alloc (Obj.cells #[Value.slice a0 n0 c0, Value.slice a1 n1 c1] 43)).heap.size = w.heap.size + 1 := by rw [World.size_alloc]
  have hA : ((w.alloc (Obj.cells #[Value.slice a0 n0 c0, Value.slice a1 n1 c1] 43)).alloc (.cells #[] 3)).ownsRow (w.alloc (Obj.cells #[Value.slice a0 n0 c0, Value.slice a1 n1 c1] 43)).heap.size 3 1 (.slice (some ⟨(w.alloc (Obj.cells #[Value.slice a0 n0 c0, Value.slice a1 n1 c1] 43)).heap.size, 0, none⟩) 0 0) 0 (([] : List Int).map (.int .i64)) := own_lit (w.alloc (Obj.cells #[Value.slice a0 n0 c0, Value.slice a1 n1 c1] 43)) 3 [] (by simp)
  rw [hs1] at hA
  have M1 : Mk0 w ((w.alloc (Obj.cells #[Value.slice a0 n0 c0, Value.slice a1 n1 c1] 43)).alloc (.cells #[] 3)) := M0.new _
  replace k1 := (Mk.alloc (w.alloc (Obj.cells #[Value.slice a0 n0 c0, Value.slice a1 n1 c1] 43)) (.cells #[] 3)).cellAt k1
  have hO := (ownsRow_own hA).low (lo' := w.heap.size) (by omega)
  clear hA
  go_enter Try.func53, Try.ntmps53
  go_wp2_with fail
  go_loopw [5, 6] (fun v i wr => ∃ k : Nat, k ≤ n1 ∧ i = .int .i64 k ∧ IfOk zl r ((w.alloc (Obj.cells #[Value.slice a0 n0 c0, Value.slice a1 n1 c1] 43)).alloc (.cells #[] 3)) w.heap.size k v wr) (fun _ i _ => n1 - (intOf i).toNat)
  case atStart => exact ⟨0, Nat.zero_le _, rfl, _, _, _, _, _, rfl, hO, Nat.le_refl _, List.Pairwise.nil, fun y => by simp [ifUp], by omega, Mk.refl _ _ _⟩
  case round =>
    clear hO
    obtain ⟨k, hk, rfl, b, off, N, C, R, rfl, hO, hNC, hSL, hmem, hN2, hM⟩ := hrel
    replace k1 := hM.cellAt k1
    have hM' := M1.trans hM
    have HSL := Lib.hid hSL
    have HMEM := Lib.hid hmem
    clear hSL hmem
    have hRN := hO.1
    by_cases hlt : k < n1
    · obtain ⟨b1, o1, x, rfl, hb1, hx, d0, d1, d2, d3, d4⟩ := HasLink.at _ _ _ _ _ _ (hl.mk hM' hB (.inr (Nat.le_refl _))) hlt
      clear d4
      have i1 : (0 : Int) ≤ (k : Int) := by omega
      have i2 : (k : Int) < (n1 : Int) := by omega
      have HRN := Lib.hid hRN
      clear hRN
      cases ea : (x.a == r)
      · have hMw := hM'
        have HLEN := HRN
        cases eb : (x.b == r)
        · go_wp2_with fail
          go_roundw
          case rel => exact ⟨k + 1, by omega, by go_num, _, _, _, _, _, rfl, hO, hNC, HSL.out, fun y => by rw [ifUp, ← hx.out]; unfold ifA ifB; rw [if_neg (by simpa using ea), if_neg (by simpa using eb), List.append_nil, List.append_nil]; exact HMEM.out y, by omega, hM⟩
          case measure => simp [intOf]; omega
        · go_wp2_with fail
          refine (specPut5 _ _ N _ w.heap.size _ x.bi _ hO (Nat.le_trans (Nat.le_refl _) (hMw).size) (by omega) hNC HSL.out).mono ?_
          rintro e w4 ⟨b4, o4, N4, C4, R4, rfl, hO4, hNC4, m4, hSL4, hmem4, hN4⟩
          have HSL4 := Lib.hid hSL4
          have HM4 := Lib.hid hmem4
          clear hSL4 hmem4
          go_wp2_with fail
          go_roundw
          case rel => exact ⟨k + 1, by omega, by go_num, _, _, _, _, _, rfl, hO4, hNC4, HSL4.out, fun y => by rw [ifUp, ← hx.out]; unfold ifA ifB; rw [if_neg (by simpa using ea), if_pos (by simpa using eb), List.nil_append, List.mem_append, List.mem_singleton, HM4.out, HMEM.out]; exact Or.comm, by have h1 := HLEN.out; omega, (hM.trans m4)⟩
          case measure => simp [intOf]; omega
      · go_wp2_with fail
        refine (specPut5 _ _ N _ w.heap.size _ x.ai _ hO hM'.size (by omega) hNC HSL.out).mono ?_
        rintro e w3 ⟨b3, o3, N3, C3, R3, rfl, hO3, hNC3, m3, hSL3, hmem3, hN3⟩
        have HSL3 := Lib.hid hSL3
        have HM3 := Lib.hid hmem3
        clear hSL3 hmem3
        replace k1 := m3.cellAt k1
        replace d2 := m3.cellAt d2
        replace d3 := m3.cellAt d3
        have hMw := hM'.trans m3
        have HLEN := Lib.hid hO3.1
        have hN3' : N3 ≤ 2 * k + 1 := by have := HRN.out; omega
        cases eb : (x.b == r)
        · go_wp2_with fail
          go_roundw
          case rel => exact ⟨k + 1, by omega, by go_num, _, _, _, _, _, rfl, hO3, hNC3, HSL3.out, fun y => by rw [ifUp, ← hx.out]; unfold ifA ifB; rw [if_pos (by simpa using ea), if_neg (by simpa using eb), List.append_nil, List.mem_append, List.mem_singleton, HM3.out, HMEM.out]; exact Or.comm, by omega, (hM.trans m3)⟩
          case measure => simp [intOf]; omega
        · go_wp2_with fail
          refine (specPut5 _ _ N3 _ w.heap.size _ x.bi _ hO3 (Nat.le_trans (Nat.le_refl _) (hMw).size) (by omega) hNC3 HSL3.out).mono ?_
          rintro e w4 ⟨b4, o4, N4, C4, R4, rfl, hO4, hNC4, m4, hSL4, hmem4, hN4⟩
          have HSL4 := Lib.hid hSL4
          have HM4 := Lib.hid hmem4
          clear hSL4 hmem4
          go_wp2_with fail
          go_roundw
          case rel => exact ⟨k + 1, by omega, by go_num, _, _, _, _, _, rfl, hO4, hNC4, HSL4.out, fun y => by rw [ifUp, ← hx.out]; unfold ifA ifB; rw [if_pos (by simpa using ea), if_pos (by simpa using eb), List.mem_append, List.mem_append, List.mem_singleton, List.mem_singleton, HM4.out, HM3.out, HMEM.out]; exact ⟨fun h => by rcases h with h | h | h; exact .inr (.inr h); exact .inr (.inl h); exact .inl h, fun h => by rcases h with h | h | h; exact .inr (.inr h); exact .inr (.inl h); exact .inl h⟩, by have h1 := HLEN.out; omega, ((hM.trans m3).trans m4)⟩
          case measure => simp [intOf]; omega
    · obtain rfl : k = n1 := by omega
      go_wp2_with fail
      go_ret
      have hR : R = uniqL (ifUp zl r k) := SL_ext HSL.out (uniqL_SL _) fun y => by rw [HMEM.out, uniqL_mem]
      exact ⟨_, N, C, rfl, (fun h => by cases h), hR ▸ hO, hM'.below0⟩

end Go.Proofs.Ytkmofhpipcodbaa
