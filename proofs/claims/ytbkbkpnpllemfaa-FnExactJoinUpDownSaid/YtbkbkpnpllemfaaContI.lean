
/- Encodable of both sides. -/
import Derived.Test.YtbkbkpnpllemfaaVerify
import Derived.Test.YtbkbkpnpllemfaaCSegment
import Derived.Test.YtbkbkpnpllemfaaInR
import Derived.Deep.QuietTactic
import Derived.BigQuiet
import Derived.Test.YtbkbkpnpllemfaaRow
import Derived.Test.YtbkbkpnpllemfaaSeen
namespace Go.Proofs.Ytbkbkpnpllemfaa
open Go.ChangeShapes Go.WideShapes Go.ChangeAt Go.RowKit
set_option linter.unusedVariables false
def okUp (zs : List THop) : Nat → Bool
  | 0 => true
  | k + 1 => okUp zs k && hopOk (zs.getD k default)
theorem okUp_stop {zs : List THop} {k : Nat} (h : hopOk (zs.getD k default) = false) : ∀ n, k < n → okUp zs n = false
  | 0, hk => absurd hk (by omega)
  | n + 1, hk => by
    rw [okUp]
    by_cases e : k = n
    · subst e; rw [h]; simp
    · rw [okUp_stop h n (by omega)]; rfl
def encB (x0 x1 : Int) (zs : List THop) (n : Nat) : Bool := if (0 ≤ x0 ∧ x0 ≤ 1000000) ∧ (0 ≤ x1 ∧ x1 ≤ 2147483646) ∧ n ≤ 8 then okUp zs n else false
set_option maxRecDepth 100000 in
set_option maxHeartbeats 2000000 in
theorem specResYes (n : Int) (w : World) (h1 : 0 ≤ n) (h2 : n ≤ 2147483646) : Calls Try.prog 100 #[.int .i64 n] w fun e w' => e = .returned (.bool true) ∧ w = w' := by
  have dh : decide (n ≤ 2147483646) = true := by simp; omega
  go_enter Try.func100, Try.ntmps100
  go_wp2_with go_in
  all_goals (go_ret; exact ⟨rfl, rfl⟩)
set_option maxRecDepth 100000 in
set_option maxHeartbeats 2000000 in
theorem specResNo (n : Int) (w : World) (h : n < 0 ∨ 2147483646 < n) : Calls Try.prog 100 #[.int .i64 n] w fun e w' => e = .returned (.bool false) ∧ w = w' := by
  by_cases h1 : n < 0
  · go_enter Try.func100, Try.ntmps100
    go_wp2_with go_in
    all_goals (go_ret; exact ⟨rfl, rfl⟩)
  · have h2 : 0 ≤ n := by omega
    have dh : decide (n ≤ 2147483646) = false := by simp; omega
    have h3 : 2147483646 < n := by omega
    clear h
    go_enter Try.func100, Try.ntmps100
    go_wp2_with go_in
    all_goals (go_ret; exact ⟨rfl, rfl⟩)
set_option maxRecDepth 100000 in
set_option maxHeartbeats 2000000 in
theorem implTimeYes (n : Int) (w : World) (h1 : 0 ≤ n) (h2 : n ≤ 1000000) : Calls Try.prog 102 #[.int .i64 n] w fun e w' => e = .returned (.bool true) ∧ w = w' := by
  have dh : decide (n ≤ 1000000) = true := by simp; omega
  go_enter Try.func102, Try.ntmps102
  go_wp2_with go_in
  all_goals (go_ret; exact ⟨rfl, rfl⟩)
set_option maxRecDepth 100000 in
set_option maxHeartbeats 2000000 in
theorem implTimeNo (n : Int) (w : World) (h : n < 0 ∨ 1000000 < n) : Calls Try.prog 102 #[.int .i64 n] w fun e w' => e = .returned (.bool false) ∧ w = w' := by
  by_cases h1 : n < 0
  · go_enter Try.func102, Try.ntmps102
    go_wp2_with go_in
    all_goals (go_ret; exact ⟨rfl, rfl⟩)
  · have h2 : 0 ≤ n := by omega
    have dh : decide (n ≤ 1000000) = false := by simp; omega
    have h3 : 1000000 < n := by omega
    clear h
    go_enter Try.func102, Try.ntmps102
    go_wp2_with go_in
    all_goals (go_ret; exact ⟨rfl, rfl⟩)
set_option maxRecDepth 100000 in
set_option maxHeartbeats 2000000 in
theorem implResYes (n : Int) (w : World) (h1 : 0 ≤ n) (h2 : n ≤ 2147483646) : Calls Try.prog 103 #[.int .i64 n] w fun e w' => e = .returned (.bool true) ∧ w = w' := by
  have dh : decide (n ≤ 2147483646) = true := by simp; omega
  go_enter Try.func103, Try.ntmps103
  go_wp2_with go_in
  all_goals (go_ret; exact ⟨rfl, rfl⟩)
set_option maxRecDepth 100000 in
set_option maxHeartbeats 2000000 in
theorem implResNo (n : Int) (w : World) (h : n < 0 ∨ 2147483646 < n) : Calls Try.prog 103 #[.int .i64 n] w fun e w' => e = .returned (.bool false) ∧ w = w' := by
  by_cases h1 : n < 0
  · go_enter Try.func103, Try.ntmps103
    go_wp2_with go_in
    all_goals (go_ret; exact ⟨rfl, rfl⟩)
  · have h2 : 0 ≤ n := by omega
    have dh : decide (n ≤ 2147483646) = false := by simp; omega
    have h3 : 2147483646 < n := by omega
    clear h
    go_enter Try.func103, Try.ntmps103
    go_wp2_with go_in
    all_goals (go_ret; exact ⟨rfl, rfl⟩)
set_option maxRecDepth 100000 in
set_option maxHeartbeats 2000000 in
theorem specEnc (x0 x1 : Int) (a : Option Addr) (n c B : Nat) (zs : List THop) (w : World) (h : HasHop w B a n zs) (hB : B ≤ w.heap.size) (hn : n ≤ 1048576) :
    Calls Try.prog 83 #[.agg #[.int .i64 x0, .int .i64 x1, .slice a n c]] w fun e w' => e = .returned (.bool (encB x0 x1 zs n)) ∧ Mk0 w w' := by
  have M0 := Mk.alloc w (Obj.cells #[Value.int .i64 x0, Value.int .i64 x1, Value.slice a n c] 28)
  by_cases ht : x0 < 0 ∨ 1000000 < x0
  · have HR := Lib.hid (show encB x0 x1 zs n = false from if_neg (by omega))
    have HT := Lib.hid ht
    clear ht
    go_enter Try.func83, Try.ntmps83
    go_wp2_with fail
    refine (specInNo _ 0 1000000 _ HT.out).mono ?_
    rintro e w' ⟨rfl, rfl⟩
    go_wp2_with fail
    go_ret
    exact ⟨retB HR.out.symm, M0⟩
  have t1 : 0 ≤ x0 := by omega
  have t2 : x0 ≤ 1000000 := by omega
  by_cases hr : x1 < 0 ∨ 2147483646 < x1
  · have HR := Lib.hid (show encB x0 x1 zs n = false from if_neg (by omega))
    clear ht
    have HT := Lib.hid hr
    clear hr
    go_enter Try.func83, Try.ntmps83
    go_wp2_with fail
    refine (specInYes _ 0 1000000 _ (by omega) (by omega)).mono ?_
    rintro e w' ⟨rfl, rfl⟩
    go_wp2_with fail
    refine (specResNo _ _ HT.out).mono ?_
    rintro e w' ⟨rfl, rfl⟩
    go_wp2_with fail
    go_ret
    exact ⟨retB HR.out.symm, M0⟩
  have r1 : 0 ≤ x1 := by omega
  have r2 : x1 ≤ 2147483646 := by omega
  by_cases hm : 8 < n
  · have HR := Lib.hid (show encB x0 x1 zs n = false from if_neg (by omega))
    clear ht hr
    go_enter Try.func83, Try.ntmps83
    go_wp2_with fail
    refine (specInYes _ 0 1000000 _ (by omega) (by omega)).mono ?_
    rintro e w' ⟨rfl, rfl⟩
    go_wp2_with fail
    refine (specResYes _ _ (by omega) (by omega)).mono ?_
    rintro e w' ⟨rfl, rfl⟩
    go_wp2_with fail
    go_ret
    exact ⟨retB HR.out.symm, M0⟩
  have h8 : n ≤ 8 := by omega
  have HR := Lib.hid (show encB x0 x1 zs n = okUp zs n from if_pos ⟨by omega, by omega, h8⟩)
  clear ht hr hm
  go_enter Try.func83, Try.ntmps83
  go_wp2_with fail
  refine (specInYes _ 0 1000000 _ (by omega) (by omega)).mono ?_
  rintro e w' ⟨rfl, rfl⟩
  go_wp2_with fail
  refine (specResYes _ _ (by omega) (by omega)).mono ?_
  rintro e w' ⟨rfl, rfl⟩
  go_wp2_with fail
  go_loopw [2, 3] (fun r i wr => r = .bool false ∧ ∃ k : Nat, k ≤ n ∧ i = .int .i64 k ∧ Hid (okUp zs k = true) ∧ Mk0 (w.alloc (Obj.cells #[Value.int .i64 x0, Value.int .i64 x1, Value.slice a n c] 28)) wr) (fun _ i _ => n - (intOf i).toNat)
  case atStart => exact ⟨rfl, 0, Nat.zero_le _, rfl, rfl, Mk.refl _ _ _⟩
  case round =>
    obtain ⟨rfl, k, hk, rfl, hS, hM⟩ := hrel
    have k2 : wr.cell? ⟨w.heap.size, 2, none⟩ = some (.slice a n c) := hM.cellAt (by simp [go_sem])
    have hM' := M0.trans hM
    by_cases hlt : k < n
    · obtain ⟨b, off, x, rfl, hb, hx, d0, d1, d2, d3, d4⟩ := HasHop.at _ _ _ _ _ _ (h.mk hM' hB (.inr (Nat.le_refl _))) hlt
      have hbr := World.block_lt_of_cell? _ _ d0
      simp only at hbr
      cases ho : hopOk x
      · have HE := Lib.hid (show encB x0 x1 zs n = false by rw [HR.out]; exact okUp_stop (by rw [← hx.out]; exact ho) n hlt)
        have HO := Lib.hid ho
        clear ho
        go_wp2_with fail
        refine (specVHop _ _ _ _ _ _).mono ?_
        rintro e w2 ⟨he, m2⟩
        rw [HO.out] at he
        subst he
        go_wp2_with fail
        go_ret
        exact ⟨retB HE.out.symm, M0.trans (hM.trans m2)⟩
      · have HE := Lib.hid (show okUp zs (k + 1) = true by rw [okUp, hS.out, ← hx.out, ho]; rfl)
        have HO := Lib.hid ho
        clear ho
        go_wp2_with fail
        refine (specVHop _ _ _ _ _ _).mono ?_
        rintro e w2 ⟨he, m2⟩
        rw [HO.out] at he
        subst he
        go_wp2_with fail
        go_roundw
        case rel => exact ⟨rfl, k + 1, by omega, by go_num, HE.out, (hM.trans m2)⟩
        case measure => simp [intOf]; omega
    · obtain rfl : k = n := by omega
      go_wp2_with fail
      go_ret
      exact ⟨retB (by rw [HR.out, hS.out]), hM'⟩

set_option maxRecDepth 100000 in
set_option maxHeartbeats 2000000 in
theorem implEnc (x0 x1 : Int) (a : Option Addr) (n c B : Nat) (zs : List THop) (w : World) (h : HasHop w B a n zs) (hB : B ≤ w.heap.size) (hn : n ≤ 1048576) :
    Calls Try.prog 86 #[.agg #[.int .i64 x0, .int .i64 x1, .slice a n c]] w fun e w' => e = .returned (.bool (encB x0 x1 zs n)) ∧ Mk0 w w' := by
  have M0 := Mk.alloc w (Obj.cells #[Value.int .i64 x0, Value.int .i64 x1, Value.slice a n c] 28)
  by_cases ht : x0 < 0 ∨ 1000000 < x0
  · have HR := Lib.hid (show encB x0 x1 zs n = false from if_neg (by omega))
    have HT := Lib.hid ht
    clear ht
    go_enter Try.func86, Try.ntmps86
    go_wp2_with fail
    refine (implTimeNo _ _ HT.out).mono ?_
    rintro e w' ⟨rfl, rfl⟩
    go_wp2_with fail
    go_ret
    exact ⟨retB HR.out.symm, M0⟩
  have t1 : 0 ≤ x0 := by omega
  have t2 : x0 ≤ 1000000 := by omega
  by_cases hr : x1 < 0 ∨ 2147483646 < x1
  · have HR := Lib.hid (show encB x0 x1 zs n = false from if_neg (by omega))
    clear ht
    have HT := Lib.hid hr
    clear hr
    go_enter Try.func86, Try.ntmps86
    go_wp2_with fail
    refine (implTimeYes _ _ (by omega) (by omega)).mono ?_
    rintro e w' ⟨rfl, rfl⟩
    go_wp2_with fail
    refine (implResNo _ _ HT.out).mono ?_
    rintro e w' ⟨rfl, rfl⟩
    go_wp2_with fail
    go_ret
    exact ⟨retB HR.out.symm, M0⟩
  have r1 : 0 ≤ x1 := by omega
  have r2 : x1 ≤ 2147483646 := by omega
  by_cases hm : 8 < n
  · have HR := Lib.hid (show encB x0 x1 zs n = false from if_neg (by omega))
    clear ht hr
    go_enter Try.func86, Try.ntmps86
    go_wp2_with fail
    refine (implTimeYes _ _ (by omega) (by omega)).mono ?_
    rintro e w' ⟨rfl, rfl⟩
    go_wp2_with fail
    refine (implResYes _ _ (by omega) (by omega)).mono ?_
    rintro e w' ⟨rfl, rfl⟩
    go_wp2_with fail
    go_ret
    exact ⟨retB HR.out.symm, M0⟩
  have h8 : n ≤ 8 := by omega
  have HR := Lib.hid (show encB x0 x1 zs n = okUp zs n from if_pos ⟨by omega, by omega, h8⟩)
  clear ht hr hm
  go_enter Try.func86, Try.ntmps86
  go_wp2_with fail
  refine (implTimeYes _ _ (by omega) (by omega)).mono ?_
  rintro e w' ⟨rfl, rfl⟩
  go_wp2_with fail
  refine (implResYes _ _ (by omega) (by omega)).mono ?_
  rintro e w' ⟨rfl, rfl⟩
  go_wp2_with fail
  go_loopw [2, 24] (fun r i wr => r = .bool false ∧ ∃ k : Nat, k ≤ n ∧ i = .int .i64 k ∧ Hid (okUp zs k = true) ∧ Mk0 (w.alloc (Obj.cells #[Value.int .i64 x0, Value.int .i64 x1, Value.slice a n c] 28)) wr) (fun _ i _ => n - (intOf i).toNat)
  case atStart => exact ⟨rfl, 0, Nat.zero_le _, rfl, rfl, Mk.refl _ _ _⟩
  case round =>
    obtain ⟨rfl, k, hk, rfl, hS, hM⟩ := hrel
    have k2 : wr.cell? ⟨w.heap.size, 2, none⟩ = some (.slice a n c) := hM.cellAt (by simp [go_sem])
    have hM' := M0.trans hM
    by_cases hlt : k < n
    · obtain ⟨b, off, x, rfl, hb, hx, d0, d1, d2, d3, d4⟩ := HasHop.at _ _ _ _ _ _ (h.mk hM' hB (.inr (Nat.le_refl _))) hlt
      have hbr := World.block_lt_of_cell? _ _ d0
      simp only at hbr
      cases ho : hopOk x
      · have HE := Lib.hid (show encB x0 x1 zs n = false by rw [HR.out]; exact okUp_stop (by rw [← hx.out]; exact ho) n hlt)
        have HO := Lib.hid ho
        clear ho
        go_wp2_with fail
        refine (implVHop _ _ _ _ _ _).mono ?_
        rintro e w2 ⟨he, m2⟩
        rw [HO.out] at he
        subst he
        go_wp2_with fail
        go_ret
        exact ⟨retB HE.out.symm, M0.trans (hM.trans ((Mk.alloc _ _).trans m2))⟩
      · have HE := Lib.hid (show okUp zs (k + 1) = true by rw [okUp, hS.out, ← hx.out, ho]; rfl)
        have HO := Lib.hid ho
        clear ho
        go_wp2_with fail
        refine (implVHop _ _ _ _ _ _).mono ?_
        rintro e w2 ⟨he, m2⟩
        rw [HO.out] at he
        subst he
        go_wp2_with fail
        go_roundw
        case rel => exact ⟨rfl, k + 1, by omega, by go_num, HE.out, (hM.trans ((Mk.alloc _ _).trans m2))⟩
        case measure => simp [intOf]; omega
    · obtain rfl : k = n := by omega
      go_wp2_with fail
      go_ret
      exact ⟨retB (by rw [HR.out, hS.out]), hM'⟩

end Go.Proofs.Ytbkbkpnpllemfaa
namespace Go.Proofs.Ytbkbkpnpllemfaa
open Go.ChangeShapes Go.WideShapes Go.ChangeAt Go.RowKit
set_option linter.unusedVariables false
def inB (n a b : Int) : Bool := decide (a ≤ n ∧ n ≤ b)
theorem specIn (n a b : Int) (w : World) : Calls Try.prog 38 #[.int .i64 n, .int .i64 a, .int .i64 b] w fun e w' => e = .returned (.bool (inB n a b)) ∧ w = w' := by
  by_cases h : a ≤ n ∧ n ≤ b
  · rw [show inB n a b = true from decide_eq_true h]; exact specInYes n a b w h.1 h.2
  · rw [show inB n a b = false from decide_eq_false h]; exact specInNo n a b w (by omega)
theorem implIn (n a b : Int) (w : World) : Calls Try.prog 40 #[.int .i64 n, .int .i64 a, .int .i64 b] w fun e w' => e = .returned (.bool (inB n a b)) ∧ w = w' := by
  by_cases h : a ≤ n ∧ n ≤ b
  · rw [show inB n a b = true from decide_eq_true h]; exact implInYes n a b w h.1 h.2
  · rw [show inB n a b = false from decide_eq_false h]; exact implInNo n a b w (by omega)
theorem specRes (n : Int) (w : World) : Calls Try.prog 100 #[.int .i64 n] w fun e w' => e = .returned (.bool (inB n 0 2147483646)) ∧ w = w' := by
  by_cases h : 0 ≤ n ∧ n ≤ 2147483646
  · rw [show inB n 0 2147483646 = true from decide_eq_true h]; exact specResYes n w h.1 h.2
  · rw [show inB n 0 2147483646 = false from decide_eq_false h]; exact specResNo n w (by omega)
theorem implRes (n : Int) (w : World) : Calls Try.prog 103 #[.int .i64 n] w fun e w' => e = .returned (.bool (inB n 0 2147483646)) ∧ w = w' := by
  by_cases h : 0 ≤ n ∧ n ≤ 2147483646
  · rw [show inB n 0 2147483646 = true from decide_eq_true h]; exact implResYes n w h.1 h.2
  · rw [show inB n 0 2147483646 = false from decide_eq_false h]; exact implResNo n w (by omega)
theorem implTime (n : Int) (w : World) : Calls Try.prog 102 #[.int .i64 n] w fun e w' => e = .returned (.bool (inB n 0 1000000)) ∧ w = w' := by
  by_cases h : 0 ≤ n ∧ n ≤ 1000000
  · rw [show inB n 0 1000000 = true from decide_eq_true h]; exact implTimeYes n w h.1 h.2
  · rw [show inB n 0 1000000 = false from decide_eq_false h]; exact implTimeNo n w (by omega)
end Go.Proofs.Ytbkbkpnpllemfaa
namespace Go.Proofs.Ytbkbkpnpllemfaa
open Go.ChangeShapes Go.WideShapes Go.ChangeAt Go.RowKit
set_option linter.unusedVariables false
def firstI (f : Nat → Int) (x : Int) (n : Nat) : Nat → Int
  | 0 => -1
  | m + 1 => if (f (n - (m + 1)) == x) = true then ((n - (m + 1) : Nat) : Int) else firstI f x n m
theorem firstI_stop {f : Nat → Int} {x : Int} {n k : Nat} (hk : k < n) (h : (f k == x) = true) : firstI f x n (n - k) = (k : Int) := by
  obtain ⟨m, hm⟩ : ∃ m, n - k = m + 1 := ⟨n - k - 1, by omega⟩
  rw [hm, firstI, show n - (m + 1) = k by omega, if_pos h]
theorem firstI_go {f : Nat → Int} {x : Int} {n k : Nat} (hk : k < n) (h : (f k == x) = false) : firstI f x n (n - k) = firstI f x n (n - (k + 1)) := by
  obtain ⟨m, hm⟩ : ∃ m, n - k = m + 1 := ⟨n - k - 1, by omega⟩
  rw [hm, firstI, show n - (m + 1) = k by omega, if_neg (by rw [h]; decide), show n - (k + 1) = m by omega]
theorem firstI_has (f : Nat → Int) (x : Int) (n : Nat) : ∀ m, m ≤ n → (∀ j, j < n - m → (f j == x) = false) → decide (0 ≤ firstI f x n m) = inUp f x n
  | 0, _, h => by
    have : inUp f x n = false := by
      have h2 : ∀ q, q ≤ n → inUp f x q = false := by
        intro q
        induction q with
        | zero => intro _; rfl
        | succ q ih => intro hq; rw [inUp, h q (by omega), ih (by omega)]; rfl
      exact h2 n (Nat.le_refl _)
    rw [this]
    rfl
  | m + 1, hm, h => by
    rw [firstI]
    split
    · rename_i he
      rw [show inUp f x n = true from inUp_mono (k := n - (m + 1) + 1) (by rw [inUp, he]; rfl) (by omega)]
      exact decide_eq_true (by omega)
    · rename_i he
      refine firstI_has f x n m (by omega) fun j hj => ?_
      by_cases hjm : j = n - (m + 1)
      · subst hjm; simpa using he
      · exact h j (by omega)
def nthI (zs : List Int) (j : Nat) : Int := zs.getD j 0
end Go.Proofs.Ytbkbkpnpllemfaa
