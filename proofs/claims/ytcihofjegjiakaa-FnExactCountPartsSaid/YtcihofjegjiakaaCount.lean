
/- The number of parts of paths, of both sides. -/
import Derived.Test.YtcihofjegjiakaaNPath
import Derived.Test.YtcihofjegjiakaaRet
namespace Go.Proofs.Ytcihofjegjiakaa
open Go.ChangeShapes Go.WideShapes Go.ChangeAt Go.RowKit
set_option linter.unusedVariables false
def nparts (x : TPath) : Nat := x.parts.length
theorem nparts_le (zs : List TPath) : ∀ k, sumTo nparts zs k ≤ sumTo sePath zs k
  | 0 => Nat.le_refl _
  | k + 1 => by have := nparts_le zs k; simp only [sumTo]; have h := szPathPart_n (zs.getD k default).parts (zs.getD k default).parts.length; unfold nparts sePath at *; omega

set_option maxRecDepth 100000 in
set_option maxHeartbeats 4000000 in
theorem specCount (a : Option Addr) (n c B : Nat) (zs : List TPath) (w : World) (h : HasPath w B a n zs) (hB : B ≤ w.heap.size) (hn : szPath zs n ≤ 1048576) :
    Calls Try.prog 31 #[.slice a n c] w fun e w' => e = .returned (.int .i64 ((sumTo nparts zs n : Nat) : Int)) ∧ Mk0 w w' := by
  have hn0 : n ≤ 1048576 := Nat.le_trans (szPath_n zs n) hn
  go_enter Try.func31, Try.ntmps31
  go_wp2_with fail
  go_loopw [3, 4] (fun v i wr => ∃ k : Nat, k ≤ n ∧ i = .int .i64 k ∧ v = .int .i64 ((sumTo nparts zs k : Nat) : Int) ∧ Mk0 w wr) (fun _ i _ => n - (intOf i).toNat)
  case atStart => exact ⟨0, Nat.zero_le _, rfl, rfl, Mk.refl _ _ _⟩
  case round =>
    obtain ⟨k, hk, rfl, rfl, hM⟩ := hrel
    by_cases hlt : k < n
    · obtain ⟨b, off, x, rfl, hb, hx, a0, n0, c0, d0, r0, m0, t0, z0⟩ := HasPath.at _ _ _ _ _ _ (h.mk hM hB (.inr (Nat.le_refl _))) hlt
      have hS1 : sumTo nparts zs (k + 1) = sumTo nparts zs k + n0 := by rw [sumTo, ← hx.out]; unfold nparts; rw [r0.1]
      have hS2 : sumTo nparts zs k + n0 ≤ 1048576 := by
        have h1 := nparts_le zs (k + 1)
        have h2 := sumTo_le sePath zs (show k + 1 ≤ n from hlt)
        unfold szPath at hn
        omega
      have HS := Lib.hid hS1
      clear hS1
      obtain ⟨q, hq⟩ : ∃ q : Nat, Hid (q = sumTo nparts zs k) := ⟨_, rfl⟩
      rw [← hq.out] at hS2 ⊢
      have hbr := World.block_lt_of_cell? _ _ d0
      simp only at hbr
      go_wp2_with fail
      go_roundw
      case rel => exact ⟨k + 1, by omega, by go_num, congrArg (Value.int .i64) (by rw [HS.out, ← hq.out]; omega), hM⟩
      case measure => simp [intOf]; omega
    · obtain rfl : k = n := by omega
      go_wp2_with fail
      go_ret
      exact ⟨rfl, hM⟩

set_option maxRecDepth 100000 in
set_option maxHeartbeats 4000000 in
theorem implCount (a : Option Addr) (n c B : Nat) (zs : List TPath) (w : World) (h : HasPath w B a n zs) (hB : B ≤ w.heap.size) (hn : szPath zs n ≤ 1048576) :
    Calls Try.prog 32 #[.slice a n c] w fun e w' => e = .returned (.int .i64 ((sumTo nparts zs n : Nat) : Int)) ∧ Mk0 w w' := by
  have hn0 : n ≤ 1048576 := Nat.le_trans (szPath_n zs n) hn
  go_enter Try.func32, Try.ntmps32
  go_wp2_with fail
  go_loopw [3, 8] (fun v i wr => ∃ k : Nat, k ≤ n ∧ i = .int .i64 k ∧ v = .int .i64 ((sumTo nparts zs k : Nat) : Int) ∧ Mk0 w wr) (fun _ i _ => n - (intOf i).toNat)
  case atStart => exact ⟨0, Nat.zero_le _, rfl, rfl, Mk.refl _ _ _⟩
  case round =>
    obtain ⟨k, hk, rfl, rfl, hM⟩ := hrel
    by_cases hlt : k < n
    · obtain ⟨b, off, x, rfl, hb, hx, a0, n0, c0, d0, r0, m0, t0, z0⟩ := HasPath.at _ _ _ _ _ _ (h.mk hM hB (.inr (Nat.le_refl _))) hlt
      have hS1 : sumTo nparts zs (k + 1) = sumTo nparts zs k + n0 := by rw [sumTo, ← hx.out]; unfold nparts; rw [r0.1]
      have hS2 : sumTo nparts zs k + n0 ≤ 1048576 := by
        have h1 := nparts_le zs (k + 1)
        have h2 := sumTo_le sePath zs (show k + 1 ≤ n from hlt)
        unfold szPath at hn
        omega
      have HS := Lib.hid hS1
      clear hS1
      obtain ⟨q, hq⟩ : ∃ q : Nat, Hid (q = sumTo nparts zs k) := ⟨_, rfl⟩
      rw [← hq.out] at hS2 ⊢
      have hbr := World.block_lt_of_cell? _ _ d0
      simp only at hbr
      go_wp2_with fail
      go_roundw
      case rel => exact ⟨k + 1, by omega, by go_num, congrArg (Value.int .i64) (by rw [HS.out, ← hq.out]; omega), hM.trans (Mk.alloc _ _)⟩
      case measure => simp [intOf]; omega
    · obtain rfl : k = n := by omega
      go_wp2_with fail
      go_ret
      exact ⟨rfl, hM⟩

end Go.Proofs.Ytcihofjegjiakaa
