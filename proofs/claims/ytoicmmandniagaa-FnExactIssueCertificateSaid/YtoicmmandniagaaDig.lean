
/- Digests, by the program and by the model. -/
import Derived.Test.YtoicmmandniagaaModOps
import Derived.Test.YtoicmmandniagaaMem
namespace Go.Proofs.Ytoicmmandniagaa
open Go.ChangeShapes Go.WideShapes Go.ChangeAt Go.RowKit
set_option linter.unusedVariables false
def digN (zs : List Int) : Nat → Int
  | 0 => 7
  | k + 1 => (digN zs k * 1000003 + modV (zs.getD k 0) 2147483647 + 11) % 2147483647
theorem digN_bd (zs : List Int) (k : Nat) : 0 ≤ digN zs k ∧ digN zs k ≤ 2147483646 := by
  cases k with
  | zero => simp [digN]
  | succ k => simp only [digN]; omega
theorem modV_bd (x : Int) : 0 ≤ modV x 2147483647 ∧ modV x 2147483647 ≤ 2147483646 := by
  have : modV x 2147483647 = x % 2147483647 := if_pos (by omega)
  omega
theorem modV_of (x : Int) : modV x 2147483647 = x % 2147483647 := if_pos (by omega)
theorem fit_at {zs : List Int} (h : ∀ z ∈ zs, (Lit.int .i64 z).wf = true) {i : Nat} (hi : i < zs.length) : -9223372036854775808 ≤ zs.getD i 0 ∧ zs.getD i 0 ≤ 9223372036854775807 := by
  have : zs.getD i 0 ∈ zs := by
    rw [List.getD_eq_getElem?_getD, List.getElem?_eq_getElem hi]
    exact List.getElem_mem _
  exact i64_of (h _ this)

set_option maxRecDepth 100000 in
set_option maxHeartbeats 800000 in
theorem specDigest (a : Option Addr) (n c B : Nat) (zs : List Int) (w : World) (h : Has .i64 w B a n zs) (hf : ∀ z ∈ zs, (Lit.int .i64 z).wf = true) (hn : n ≤ 16777216) :
    Calls Try.prog 26 #[.slice a n c] w fun e w' => e = .returned (.int .i64 (digN zs n)) ∧ w = w' := by
  have HF := Lib.hid hf
  clear hf
  go_enter Try.func26, Try.ntmps26
  go_wp2
  go_loop [3, 4] (fun s i => ∃ k : Nat, k ≤ n ∧ i = .int .i64 k ∧ s = .int .i64 (digN zs k)) (fun _ i => n - (intOf i).toNat)
  case atStart => exact ⟨0, Nat.zero_le _, rfl, rfl⟩
  case round =>
    obtain ⟨k, hk, rfl, rfl⟩ := hrel
    obtain ⟨d0, d1⟩ := digN_bd zs k
    by_cases hlt : k < n
    · obtain ⟨b, off, z, rfl, hb, hz, hc⟩ := h.at_ hlt
      have hzb : -9223372036854775808 ≤ z ∧ z ≤ 9223372036854775807 := by rw [hz.out]; exact fit_at HF.out (by rw [h.1]; exact hlt)
      obtain ⟨m0, m1⟩ := modV_bd z
      obtain ⟨m, hm⟩ : ∃ m, m = modV z 2147483647 := ⟨_, rfl⟩
      rw [← hm] at m0 m1
      have HM := Lib.hid hm
      clear hm
      obtain ⟨d, hd⟩ : ∃ d, d = digN zs k := ⟨_, rfl⟩
      rw [← hd] at d0 d1 ⊢
      have HD := Lib.hid hd
      clear hd
      go_wp2_with fail
      refine (specMod _ _ _ (by omega) (by omega)).mono ?_
      rintro e w1 ⟨he, rfl⟩
      rw [← HM.out] at he
      subst he
      go_wp2_with fail
      go_round
      case rel => exact ⟨k + 1, by omega, by go_num, by rw [show digN zs (k + 1) = (digN zs k * 1000003 + modV (zs.getD k 0) 2147483647 + 11) % 2147483647 from rfl, ← hz.out, ← HM.out, ← HD.out]⟩
      case measure => simp [intOf]; omega
    · obtain rfl : k = n := by omega
      go_wp2
      go_ret
      exact ⟨rfl, rfl⟩

set_option maxRecDepth 100000 in
set_option maxHeartbeats 800000 in
theorem implDigest (a : Option Addr) (n c B : Nat) (zs : List Int) (w : World) (h : Has .i64 w B a n zs) (hf : ∀ z ∈ zs, (Lit.int .i64 z).wf = true) (hn : n ≤ 16777216) :
    Calls Try.prog 51 #[.slice a n c] w fun e w' => e = .returned (.int .i64 (digN zs n)) ∧ w = w' := by
  have HF := Lib.hid hf
  clear hf
  go_enter Try.func51, Try.ntmps51
  go_wp2
  go_loop [3, 8] (fun s i => ∃ k : Nat, k ≤ n ∧ i = .int .i64 k ∧ s = .int .i64 (digN zs k)) (fun _ i => n - (intOf i).toNat)
  case atStart => exact ⟨0, Nat.zero_le _, rfl, rfl⟩
  case round =>
    obtain ⟨k, hk, rfl, rfl⟩ := hrel
    obtain ⟨d0, d1⟩ := digN_bd zs k
    by_cases hlt : k < n
    · obtain ⟨b, off, z, rfl, hb, hz, hc⟩ := h.at_ hlt
      have hzb : -9223372036854775808 ≤ z ∧ z ≤ 9223372036854775807 := by rw [hz.out]; exact fit_at HF.out (by rw [h.1]; exact hlt)
      obtain ⟨m0, m1⟩ := modV_bd z
      obtain ⟨m, hm⟩ : ∃ m, m = modV z 2147483647 := ⟨_, rfl⟩
      rw [← hm] at m0 m1
      have HM := Lib.hid hm
      clear hm
      obtain ⟨d, hd⟩ : ∃ d, d = digN zs k := ⟨_, rfl⟩
      rw [← hd] at d0 d1 ⊢
      have HD := Lib.hid hd
      clear hd
      go_wp2_with fail
      refine (implMod _ _ _ (by omega) (by omega)).mono ?_
      rintro e w1 ⟨he, rfl⟩
      rw [← HM.out] at he
      subst he
      go_wp2_with fail
      refine (implMod _ _ _ (by omega) (by omega)).mono ?_
      rintro e w1 ⟨rfl, rfl⟩
      go_wp2_with fail
      go_round
      case rel => exact ⟨k + 1, by omega, by go_num, by rw [show digN zs (k + 1) = (digN zs k * 1000003 + modV (zs.getD k 0) 2147483647 + 11) % 2147483647 from rfl, ← hz.out, ← HM.out, ← HD.out, ← modV_of]⟩
      case measure => simp [intOf]; omega
    · obtain rfl : k = n := by omega
      go_wp2
      go_ret
      exact ⟨rfl, rfl⟩

end Go.Proofs.Ytoicmmandniagaa
