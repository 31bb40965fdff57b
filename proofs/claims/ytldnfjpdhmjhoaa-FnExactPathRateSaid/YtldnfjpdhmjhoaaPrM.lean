
/- The least of a list of rates. -/
import Derived.Test.YtldnfjpdhmjhoaaEgP
import Derived.Test.YtldnfjpdhmjhoaaRates
import Derived.Test.YtldnfjpdhmjhoaaContI
namespace Go.Proofs.Ytldnfjpdhmjhoaa
open Go Go.Proofs Go.RowKit Go.Shelf Go.ChangeShapes Go.WideShapes Go.ChangeAt
set_option linter.unusedVariables false
/-- The least of the first k, as the model finds it. -/
def leastUp (f : Nat → Int) : Nat → Int
  | 0 => 0
  | k + 1 => if k = 0 then f 0 else if f k < leastUp f k then f k else leastUp f k
theorem leastUp_congr {f g : Nat → Int} {n : Nat} (h : ∀ i, i < n → f i = g i) : ∀ k, k ≤ n → leastUp f k = leastUp g k
  | 0, _ => rfl
  | k + 1, hk => by
    rw [leastUp, leastUp, leastUp_congr h k (by omega), h k (by omega)]
    by_cases e : k = 0
    · subst e
      rw [if_pos rfl, if_pos rfl, h 0 (by omega)]
    · rw [if_neg e, if_neg e]
theorem leastUp_lt {f : Nat → Int} {k : Nat} (hk : k ≠ 0) (h : f k < leastUp f k) : leastUp f (k + 1) = f k := by rw [leastUp, if_neg hk, if_pos h]
theorem leastUp_ge {f : Nat → Int} {k : Nat} (hk : k ≠ 0) (h : ¬ f k < leastUp f k) : leastUp f (k + 1) = leastUp f k := by rw [leastUp, if_neg hk, if_neg h]
theorem leastUp_one {f : Nat → Int} : leastUp f 1 = f 0 := by rw [leastUp, if_pos rfl]
set_option maxRecDepth 100000 in
set_option maxHeartbeats 4000000 in
theorem minInts (a : Option Addr) (n c B : Nat) (zs : List Int) (w : World) (h : Has .i64 w B a n zs) (hB : B ≤ w.heap.size) (hn : n ≤ 1048576) (h0 : 0 < n) :
    Calls Try.prog 53 #[.slice a n c] w fun e w' => e = .returned (.int .i64 (leastUp (nthI zs) n)) ∧ w = w' := by
  obtain ⟨b, off, z, rfl, hb, hz, c0⟩ := h.at_ h0
  have c0' : w.cell? ⟨b, off, none⟩ = some (.int .i64 z) := c0
  have HZ := Lib.hid (show leastUp (nthI zs) 1 = z by rw [leastUp_one, hz.out]; rfl)
  go_enter Try.func53, Try.ntmps53
  go_wp2_with fail
  go_loop [3, 4] (fun m i => ∃ k : Nat, 0 < k ∧ k ≤ n ∧ i = .int .i64 (k : Int) ∧ m = .int .i64 (leastUp (nthI zs) k)) (fun _ i => n - (intOf i).toNat)
  case atStart => exact ⟨1, by omega, h0, rfl, by rw [HZ.out]⟩
  case round =>
    obtain ⟨k, hk0, hk, rfl, rfl⟩ := hrel
    obtain ⟨V, hV⟩ : ∃ V, Hid (V = leastUp (nthI zs) k) := ⟨_, Lib.hid rfl⟩
    rw [← hV.out]
    by_cases hlt : k < n
    · obtain ⟨b', off', y, e', hb', hy, c1⟩ := h.at_ hlt
      simp only [Option.some.injEq, Addr.mk.injEq, and_true] at e'
      obtain ⟨rfl, rfl⟩ := e'
      have i1 : (0 : Int) ≤ (k : Int) := by omega
      have i2 : (k : Int) < (n : Int) := by omega
      have hyv : nthI zs k = y := by rw [hy.out]; rfl
      by_cases hc : y < V
      · have HE := Lib.hid (show leastUp (nthI zs) (k + 1) = y by rw [leastUp_lt (by omega) (by rw [hyv, ← hV.out]; exact hc), hyv])
        go_wp2_with fail
        go_round
        case rel => exact ⟨k + 1, by omega, by omega, by go_num, congrArg (Value.int .i64) (by rw [HE.out])⟩
        case measure => simp [intOf]; omega
      · have HE := Lib.hid (show leastUp (nthI zs) (k + 1) = V by rw [leastUp_ge (by omega) (by rw [hyv, ← hV.out]; exact hc), ← hV.out])
        go_wp2_with fail
        go_round
        case rel => exact ⟨k + 1, by omega, by omega, by go_num, congrArg (Value.int .i64) (by rw [HE.out])⟩
        case measure => simp [intOf]; omega
    · obtain rfl : k = n := by omega
      go_wp2_with fail
      go_ret
      exact ⟨retI (by rw [hV.out]), rfl⟩

set_option maxRecDepth 100000 in
set_option maxHeartbeats 4000000 in
theorem leastOZ (a : Option Addr) (n c B : Nat) (zs : List Int) (w : World) (h : Has .i64 w B a n zs) (hB : B ≤ w.heap.size) (hn : n ≤ 1048576) :
    Calls Try.prog 38 #[.slice a n c] w fun e w' => e = .returned (.int .i64 (leastUp (nthI zs) n)) ∧ w = w' := by
  by_cases h0 : n = 0
  · subst h0
    go_enter Try.func38, Try.ntmps38
    go_wp2_with fail
    go_ret
    exact ⟨rfl, rfl⟩
  · have hc : ((n : Int) == 0) = false := by simp; omega
    go_enter Try.func38, Try.ntmps38
    go_wp2_with fail
    refine (minInts a n c B zs w h hB hn (by omega)).mono ?_
    rintro e w' ⟨rfl, rfl⟩
    go_wp2_with fail
    go_ret
    exact ⟨rfl, rfl⟩

end Go.Proofs.Ytldnfjpdhmjhoaa
