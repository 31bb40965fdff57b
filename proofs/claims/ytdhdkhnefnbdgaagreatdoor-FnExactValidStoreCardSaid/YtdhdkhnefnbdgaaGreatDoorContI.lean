
/- Encodable of both sides. -/
import Derived.Test.YtdhdkhnefnbdgaaGreatDoorVerify
import Derived.Test.YtdhdkhnefnbdgaaGreatDoorCSegment
import Derived.Test.YtdhdkhnefnbdgaaGreatDoorInR
import Derived.Deep.QuietTactic
import Derived.BigQuiet
import Derived.Test.YtdhdkhnefnbdgaaGreatDoorRow
import Derived.Test.YtdhdkhnefnbdgaaGreatDoorSeen
namespace Go.Proofs.YtdhdkhnefnbdgaaGreatDoor
open Go.ChangeShapes Go.WideShapes Go.ChangeAt Go.RowKit
set_option linter.unusedVariables false
def okUp (zs : List THop) : Nat → Bool
  | 0 => true
  | k + 1 => okUp zs k && hopOk (zs.getD k default)
theorem okUp_stop {zs : List THop} {k : Nat} (h : hopOk (zs.getD k default) = false) : ∀ n, k < n → okUp zs n = false
  | 0, hk => absurd hk (by omega)
  | n + 1, hk => by
    rw [okUp]
    by_cases e : k = n
    · subst e; rw [h]; simp
    · rw [okUp_stop h n (by omega)]; rfl
def encB (x0 x1 : Int) (zs : List THop) (n : Nat) : Bool := if (0 ≤ x0 ∧ x0 ≤ 1000000) ∧ (0 ≤ x1 ∧ x1 ≤ 2147483646) ∧ n ≤ 8 then okUp zs n else false
set_option maxRecDepth 100000 in
set_option maxHeartbeats 2000000 in
theorem specResYes (n : Int) (w : World) (h1 : 0 ≤ n) (h2 : n ≤ 2147483646) : Calls Tryz.prog 50 #[.int .i64 n] w fun e w' => e = .returned (.bool true) ∧ w = w' := by
  have dh : decide (n ≤ 2147483646) = true := by simp; omega
  go_enter Tryz.func50, Tryz.ntmps50
  go_wp2_with go_in
  all_goals (go_ret; exact ⟨rfl, rfl⟩)
set_option maxRecDepth 100000 in
set_option maxHeartbeats 2000000 in
theorem specResNo (n : Int) (w : World) (h : n < 0 ∨ 2147483646 < n) : Calls Tryz.prog 50 #[.int .i64 n] w fun e w' => e = .returned (.bool false) ∧ w = w' := by
  by_cases h1 : n < 0
  · go_enter Tryz.func50, Tryz.ntmps50
    go_wp2_with go_in
    all_goals (go_ret; exact ⟨rfl, rfl⟩)
  · have h2 : 0 ≤ n := by omega
    have dh : decide (n ≤ 2147483646) = false := by simp; omega
    have h3 : 2147483646 < n := by omega
    clear h
    go_enter Tryz.func50, Tryz.ntmps50
    go_wp2_with go_in
    all_goals (go_ret; exact ⟨rfl, rfl⟩)
set_option maxRecDepth 100000 in
set_option maxHeartbeats 2000000 in
theorem implTimeYes (n : Int) (w : World) (h1 : 0 ≤ n) (h2 : n ≤ 1000000) : Calls Tryz.prog 59 #[.int .i64 n] w fun e w' => e = .returned (.bool true) ∧ w = w' := by
  have dh : decide (n ≤ 1000000) = true := by simp; omega
  go_enter Tryz.func59, Tryz.ntmps59
  go_wp2_with go_in
  all_goals (go_ret; exact ⟨rfl, rfl⟩)
set_option maxRecDepth 100000 in
set_option maxHeartbeats 2000000 in
theorem implTimeNo (n : Int) (w : World) (h : n < 0 ∨ 1000000 < n) : Calls Tryz.prog 59 #[.int .i64 n] w fun e w' => e = .returned (.bool false) ∧ w = w' := by
  by_cases h1 : n < 0
  · go_enter Tryz.func59, Tryz.ntmps59
    go_wp2_with go_in
    all_goals (go_ret; exact ⟨rfl, rfl⟩)
  · have h2 : 0 ≤ n := by omega
    have dh : decide (n ≤ 1000000) = false := by simp; omega
    have h3 : 1000000 < n := by omega
    clear h
    go_enter Tryz.func59, Tryz.ntmps59
    go_wp2_with go_in
    all_goals (go_ret; exact ⟨rfl, rfl⟩)
set_option maxRecDepth 100000 in
set_option maxHeartbeats 2000000 in
theorem implResYes (n : Int) (w : World) (h1 : 0 ≤ n) (h2 : n ≤ 2147483646) : Calls Tryz.prog 60 #[.int .i64 n] w fun e w' => e = .returned (.bool true) ∧ w = w' := by
  have dh : decide (n ≤ 2147483646) = true := by simp; omega
  go_enter Tryz.func60, Tryz.ntmps60
  go_wp2_with go_in
  all_goals (go_ret; exact ⟨rfl, rfl⟩)
set_option maxRecDepth 100000 in
set_option maxHeartbeats 2000000 in
theorem implResNo (n : Int) (w : World) (h : n < 0 ∨ 2147483646 < n) : Calls Tryz.prog 60 #[.int .i64 n] w fun e w' => e = .returned (.bool false) ∧ w = w' := by
  by_cases h1 : n < 0
  · go_enter Tryz.func60, Tryz.ntmps60
    go_wp2_with go_in
    all_goals (go_ret; exact ⟨rfl, rfl⟩)
  · have h2 : 0 ≤ n := by omega
    have dh : decide (n ≤ 2147483646) = false := by simp; omega
    have h3 : 2147483646 < n := by omega
    clear h
    go_enter Tryz.func60, Tryz.ntmps60
    go_wp2_with go_in
    all_goals (go_ret; exact ⟨rfl, rfl⟩)
end Go.Proofs.YtdhdkhnefnbdgaaGreatDoor
namespace Go.Proofs.YtdhdkhnefnbdgaaGreatDoor
open Go.ChangeShapes Go.WideShapes Go.ChangeAt Go.RowKit
set_option linter.unusedVariables false
def inB (n a b : Int) : Bool := decide (a ≤ n ∧ n ≤ b)
theorem specIn (n a b : Int) (w : World) : Calls Tryz.prog 46 #[.int .i64 n, .int .i64 a, .int .i64 b] w fun e w' => e = .returned (.bool (inB n a b)) ∧ w = w' := by
  by_cases h : a ≤ n ∧ n ≤ b
  · rw [show inB n a b = true from decide_eq_true h]; exact specInYes n a b w h.1 h.2
  · rw [show inB n a b = false from decide_eq_false h]; exact specInNo n a b w (by omega)
theorem implIn (n a b : Int) (w : World) : Calls Tryz.prog 55 #[.int .i64 n, .int .i64 a, .int .i64 b] w fun e w' => e = .returned (.bool (inB n a b)) ∧ w = w' := by
  by_cases h : a ≤ n ∧ n ≤ b
  · rw [show inB n a b = true from decide_eq_true h]; exact implInYes n a b w h.1 h.2
  · rw [show inB n a b = false from decide_eq_false h]; exact implInNo n a b w (by omega)
theorem specRes (n : Int) (w : World) : Calls Tryz.prog 50 #[.int .i64 n] w fun e w' => e = .returned (.bool (inB n 0 2147483646)) ∧ w = w' := by
  by_cases h : 0 ≤ n ∧ n ≤ 2147483646
  · rw [show inB n 0 2147483646 = true from decide_eq_true h]; exact specResYes n w h.1 h.2
  · rw [show inB n 0 2147483646 = false from decide_eq_false h]; exact specResNo n w (by omega)
theorem implRes (n : Int) (w : World) : Calls Tryz.prog 60 #[.int .i64 n] w fun e w' => e = .returned (.bool (inB n 0 2147483646)) ∧ w = w' := by
  by_cases h : 0 ≤ n ∧ n ≤ 2147483646
  · rw [show inB n 0 2147483646 = true from decide_eq_true h]; exact implResYes n w h.1 h.2
  · rw [show inB n 0 2147483646 = false from decide_eq_false h]; exact implResNo n w (by omega)
theorem implTime (n : Int) (w : World) : Calls Tryz.prog 59 #[.int .i64 n] w fun e w' => e = .returned (.bool (inB n 0 1000000)) ∧ w = w' := by
  by_cases h : 0 ≤ n ∧ n ≤ 1000000
  · rw [show inB n 0 1000000 = true from decide_eq_true h]; exact implTimeYes n w h.1 h.2
  · rw [show inB n 0 1000000 = false from decide_eq_false h]; exact implTimeNo n w (by omega)
end Go.Proofs.YtdhdkhnefnbdgaaGreatDoor
namespace Go.Proofs.YtdhdkhnefnbdgaaGreatDoor
open Go.ChangeShapes Go.WideShapes Go.ChangeAt Go.RowKit
set_option linter.unusedVariables false
def firstI (f : Nat → Int) (x : Int) (n : Nat) : Nat → Int
  | 0 => -1
  | m + 1 => if (f (n - (m + 1)) == x) = true then ((n - (m + 1) : Nat) : Int) else firstI f x n m
theorem firstI_stop {f : Nat → Int} {x : Int} {n k : Nat} (hk : k < n) (h : (f k == x) = true) : firstI f x n (n - k) = (k : Int) := by
  obtain ⟨m, hm⟩ : ∃ m, n - k = m + 1 := ⟨n - k - 1, by omega⟩
  rw [hm, firstI, show n - (m + 1) = k by omega, if_pos h]
theorem firstI_go {f : Nat → Int} {x : Int} {n k : Nat} (hk : k < n) (h : (f k == x) = false) : firstI f x n (n - k) = firstI f x n (n - (k + 1)) := by
  obtain ⟨m, hm⟩ : ∃ m, n - k = m + 1 := ⟨n - k - 1, by omega⟩
  rw [hm, firstI, show n - (m + 1) = k by omega, if_neg (by rw [h]; decide), show n - (k + 1) = m by omega]
theorem firstI_has (f : Nat → Int) (x : Int) (n : Nat) : ∀ m, m ≤ n → (∀ j, j < n - m → (f j == x) = false) → decide (0 ≤ firstI f x n m) = inUp f x n
  | 0, _, h => by
    have : inUp f x n = false := by
      have h2 : ∀ q, q ≤ n → inUp f x q = false := by
        intro q
        induction q with
        | zero => intro _; rfl
        | succ q ih => intro hq; rw [inUp, h q (by omega), ih (by omega)]; rfl
      exact h2 n (Nat.le_refl _)
    rw [this]
    rfl
  | m + 1, hm, h => by
    rw [firstI]
    split
    · rename_i he
      rw [show inUp f x n = true from inUp_mono (k := n - (m + 1) + 1) (by rw [inUp, he]; rfl) (by omega)]
      exact decide_eq_true (by omega)
    · rename_i he
      refine firstI_has f x n m (by omega) fun j hj => ?_
      by_cases hjm : j = n - (m + 1)
      · subst hjm; simpa using he
      · exact h j (by omega)
def nthI (zs : List Int) (j : Nat) : Int := zs.getD j 0
set_option maxRecDepth 100000 in
set_option maxHeartbeats 4000000 in
theorem indexI (x : Int) (a : Option Addr) (n c B : Nat) (zs : List Int) (w : World) (h : Has .i64 w B a n zs) (hn : n ≤ 4194304) :
    Calls Tryz.prog 64 #[.slice a n c, .int .i64 x] w fun e w' => e = .returned (.int .i64 (firstI (nthI zs) x n n)) ∧ w = w' := by
  go_enter Tryz.func64, Tryz.ntmps64
  go_wp2_with fail
  go_loop [4, 8] (fun r i => r = .int .i64 0 ∧ ∃ k : Nat, k ≤ n ∧ i = .int .i64 k ∧ Hid (firstI (nthI zs) x n n = firstI (nthI zs) x n (n - k))) (fun _ i => n - (intOf i).toNat)
  case atStart => exact ⟨rfl, 0, Nat.zero_le _, rfl, rfl⟩
  case round =>
    obtain ⟨rfl, k, hk, rfl, hS⟩ := hrel
    by_cases hlt : k < n
    · obtain ⟨b, off, z, rfl, hb, hz, c0⟩ := h.at_ hlt
      cases he : (z == x)
      · have HE := Lib.hid (show firstI (nthI zs) x n n = firstI (nthI zs) x n (n - (k + 1)) by rw [hS.out]; exact firstI_go hlt (by unfold nthI; rw [← hz.out]; exact he))
        have he2 : (x == z) = false := by rw [beq_eq_false_iff_ne] at he ⊢; exact fun e => he e.symm
        go_wp2_with fail
        go_round
        case rel => exact ⟨rfl, k + 1, by omega, by go_num, HE.out⟩
        case measure => simp [intOf]; omega
      · have HE := Lib.hid (show firstI (nthI zs) x n n = (k : Int) by rw [hS.out]; exact firstI_stop hlt (by unfold nthI; rw [← hz.out]; exact he))
        have he2 : (x == z) = true := by rw [beq_iff_eq] at he ⊢; exact he.symm
        go_wp2_with fail
        go_ret
        exact ⟨retI HE.out.symm, rfl⟩
    · obtain rfl : k = n := by omega
      go_wp2_with fail
      go_ret
      exact ⟨retI (by rw [hS.out, Nat.sub_self]; rfl), rfl⟩

set_option maxRecDepth 100000 in
set_option maxHeartbeats 4000000 in
theorem contI (x : Int) (a : Option Addr) (n c B : Nat) (zs : List Int) (w : World) (h : Has .i64 w B a n zs) (hn : n ≤ 4194304) :
    Calls Tryz.prog 36 #[.slice a n c, .int .i64 x] w fun e w' => e = .returned (.bool (inUp (nthI zs) x n)) ∧ w = w' := by
  have HR := Lib.hid (firstI_has (nthI zs) x n n (Nat.le_refl _) (fun j hj => by omega))
  go_enter Tryz.func36, Tryz.ntmps36
  go_wp2_with fail
  refine (indexI x a n c B zs _ h hn).mono ?_
  rintro e w' ⟨rfl, rfl⟩
  go_wp2_with fail
  go_ret
  exact ⟨retB HR.out, rfl⟩

end Go.Proofs.YtdhdkhnefnbdgaaGreatDoor
