
/- Encodable of both sides. -/
import Derived.Test.YtpfjjfbheliinaaVHop
import Derived.Test.YtpfjjfbheliinaaCSegment
import Derived.Test.YtpfjjfbheliinaaInR
import Derived.Deep.QuietTactic
import Derived.BigQuiet
namespace Go.Proofs.Ytpfjjfbheliinaa
open Go.ChangeShapes Go.WideShapes Go.ChangeAt Go.RowKit
set_option linter.unusedVariables false
def okUp (zs : List THop) : Nat → Bool
  | 0 => true
  | k + 1 => okUp zs k && hopOk (zs.getD k default)
theorem okUp_stop {zs : List THop} {k : Nat} (h : hopOk (zs.getD k default) = false) : ∀ n, k < n → okUp zs n = false
  | 0, hk => absurd hk (by omega)
  | n + 1, hk => by
    rw [okUp]
    by_cases e : k = n
    · subst e; rw [h]; simp
    · rw [okUp_stop h n (by omega)]; rfl
def encB (x0 x1 : Int) (zs : List THop) (n : Nat) : Bool := if (0 ≤ x0 ∧ x0 ≤ 1000000) ∧ (0 ≤ x1 ∧ x1 ≤ 2147483646) ∧ n ≤ 8 then okUp zs n else false
set_option maxRecDepth 100000 in
set_option maxHeartbeats 2000000 in
theorem specResYes (n : Int) (w : World) (h1 : 0 ≤ n) (h2 : n ≤ 2147483646) : Calls Try.prog 144 #[.int .i64 n] w fun e w' => e = .returned (.bool true) ∧ w = w' := by
  have dh : decide (n ≤ 2147483646) = true := by simp; omega
  go_enter Try.func144, Try.ntmps144
  go_wp2_with go_in
  all_goals (go_ret; exact ⟨rfl, rfl⟩)
set_option maxRecDepth 100000 in
set_option maxHeartbeats 2000000 in
theorem specResNo (n : Int) (w : World) (h : n < 0 ∨ 2147483646 < n) : Calls Try.prog 144 #[.int .i64 n] w fun e w' => e = .returned (.bool false) ∧ w = w' := by
  by_cases h1 : n < 0
  · go_enter Try.func144, Try.ntmps144
    go_wp2_with go_in
    all_goals (go_ret; exact ⟨rfl, rfl⟩)
  · have h2 : 0 ≤ n := by omega
    have dh : decide (n ≤ 2147483646) = false := by simp; omega
    have h3 : 2147483646 < n := by omega
    clear h
    go_enter Try.func144, Try.ntmps144
    go_wp2_with go_in
    all_goals (go_ret; exact ⟨rfl, rfl⟩)
set_option maxRecDepth 100000 in
set_option maxHeartbeats 2000000 in
theorem implTimeYes (n : Int) (w : World) (h1 : 0 ≤ n) (h2 : n ≤ 1000000) : Calls Try.prog 188 #[.int .i64 n] w fun e w' => e = .returned (.bool true) ∧ w = w' := by
  have dh : decide (n ≤ 1000000) = true := by simp; omega
  go_enter Try.func188, Try.ntmps188
  go_wp2_with go_in
  all_goals (go_ret; exact ⟨rfl, rfl⟩)
set_option maxRecDepth 100000 in
set_option maxHeartbeats 2000000 in
theorem implTimeNo (n : Int) (w : World) (h : n < 0 ∨ 1000000 < n) : Calls Try.prog 188 #[.int .i64 n] w fun e w' => e = .returned (.bool false) ∧ w = w' := by
  by_cases h1 : n < 0
  · go_enter Try.func188, Try.ntmps188
    go_wp2_with go_in
    all_goals (go_ret; exact ⟨rfl, rfl⟩)
  · have h2 : 0 ≤ n := by omega
    have dh : decide (n ≤ 1000000) = false := by simp; omega
    have h3 : 1000000 < n := by omega
    clear h
    go_enter Try.func188, Try.ntmps188
    go_wp2_with go_in
    all_goals (go_ret; exact ⟨rfl, rfl⟩)
set_option maxRecDepth 100000 in
set_option maxHeartbeats 2000000 in
theorem implResYes (n : Int) (w : World) (h1 : 0 ≤ n) (h2 : n ≤ 2147483646) : Calls Try.prog 150 #[.int .i64 n] w fun e w' => e = .returned (.bool true) ∧ w = w' := by
  have dh : decide (n ≤ 2147483646) = true := by simp; omega
  go_enter Try.func150, Try.ntmps150
  go_wp2_with go_in
  all_goals (go_ret; exact ⟨rfl, rfl⟩)
set_option maxRecDepth 100000 in
set_option maxHeartbeats 2000000 in
theorem implResNo (n : Int) (w : World) (h : n < 0 ∨ 2147483646 < n) : Calls Try.prog 150 #[.int .i64 n] w fun e w' => e = .returned (.bool false) ∧ w = w' := by
  by_cases h1 : n < 0
  · go_enter Try.func150, Try.ntmps150
    go_wp2_with go_in
    all_goals (go_ret; exact ⟨rfl, rfl⟩)
  · have h2 : 0 ≤ n := by omega
    have dh : decide (n ≤ 2147483646) = false := by simp; omega
    have h3 : 2147483646 < n := by omega
    clear h
    go_enter Try.func150, Try.ntmps150
    go_wp2_with go_in
    all_goals (go_ret; exact ⟨rfl, rfl⟩)
set_option maxRecDepth 100000 in
set_option maxHeartbeats 2000000 in
theorem specEnc (x0 x1 : Int) (a : Option Addr) (n c B : Nat) (zs : List THop) (w : World) (h : HasHop w B a n zs) (hB : B ≤ w.heap.size) (hn : n ≤ 1048576) :
    Calls Try.prog 172 #[.agg #[.int .i64 x0, .int .i64 x1, .slice a n c]] w fun e w' => e = .returned (.bool (encB x0 x1 zs n)) ∧ Mk0 w w' := by
  have M0 := Mk.alloc w (Obj.cells #[Value.int .i64 x0, Value.int .i64 x1, Value.slice a n c] 31)
  by_cases ht : x0 < 0 ∨ 1000000 < x0
  · have HR := Lib.hid (show encB x0 x1 zs n = false from if_neg (by omega))
    have HT := Lib.hid ht
    clear ht
    go_enter Try.func172, Try.ntmps172
    go_wp2_with fail
    refine (specInNo _ 0 1000000 _ HT.out).mono ?_
    rintro e w' ⟨rfl, rfl⟩
    go_wp2_with fail
    go_ret
    exact ⟨retB HR.out.symm, M0⟩
  have t1 : 0 ≤ x0 := by omega
  have t2 : x0 ≤ 1000000 := by omega
  by_cases hr : x1 < 0 ∨ 2147483646 < x1
  · have HR := Lib.hid (show encB x0 x1 zs n = false from if_neg (by omega))
    clear ht
    have HT := Lib.hid hr
    clear hr
    go_enter Try.func172, Try.ntmps172
    go_wp2_with fail
    refine (specInYes _ 0 1000000 _ (by omega) (by omega)).mono ?_
    rintro e w' ⟨rfl, rfl⟩
    go_wp2_with fail
    refine (specResNo _ _ HT.out).mono ?_
    rintro e w' ⟨rfl, rfl⟩
    go_wp2_with fail
    go_ret
    exact ⟨retB HR.out.symm, M0⟩
  have r1 : 0 ≤ x1 := by omega
  have r2 : x1 ≤ 2147483646 := by omega
  by_cases hm : 8 < n
  · have HR := Lib.hid (show encB x0 x1 zs n = false from if_neg (by omega))
    clear ht hr
    go_enter Try.func172, Try.ntmps172
    go_wp2_with fail
    refine (specInYes _ 0 1000000 _ (by omega) (by omega)).mono ?_
    rintro e w' ⟨rfl, rfl⟩
    go_wp2_with fail
    refine (specResYes _ _ (by omega) (by omega)).mono ?_
    rintro e w' ⟨rfl, rfl⟩
    go_wp2_with fail
    go_ret
    exact ⟨retB HR.out.symm, M0⟩
  have h8 : n ≤ 8 := by omega
  have HR := Lib.hid (show encB x0 x1 zs n = okUp zs n from if_pos ⟨by omega, by omega, h8⟩)
  clear ht hr hm
  go_enter Try.func172, Try.ntmps172
  go_wp2_with fail
  refine (specInYes _ 0 1000000 _ (by omega) (by omega)).mono ?_
  rintro e w' ⟨rfl, rfl⟩
  go_wp2_with fail
  refine (specResYes _ _ (by omega) (by omega)).mono ?_
  rintro e w' ⟨rfl, rfl⟩
  go_wp2_with fail
  go_loopw [2, 3] (fun r i wr => r = .bool false ∧ ∃ k : Nat, k ≤ n ∧ i = .int .i64 k ∧ Hid (okUp zs k = true) ∧ Mk0 (w.alloc (Obj.cells #[Value.int .i64 x0, Value.int .i64 x1, Value.slice a n c] 31)) wr) (fun _ i _ => n - (intOf i).toNat)
  case atStart => exact ⟨rfl, 0, Nat.zero_le _, rfl, rfl, Mk.refl _ _ _⟩
  case round =>
    obtain ⟨rfl, k, hk, rfl, hS, hM⟩ := hrel
    have k2 : wr.cell? ⟨w.heap.size, 2, none⟩ = some (.slice a n c) := hM.cellAt (by simp [go_sem])
    have hM' := M0.trans hM
    by_cases hlt : k < n
    · obtain ⟨b, off, x, rfl, hb, hx, d0, d1, d2, d3, d4⟩ := HasHop.at _ _ _ _ _ _ (h.mk hM' hB (.inr (Nat.le_refl _))) hlt
      have hbr := World.block_lt_of_cell? _ _ d0
      simp only at hbr
      cases ho : hopOk x
      · have HE := Lib.hid (show encB x0 x1 zs n = false by rw [HR.out]; exact okUp_stop (by rw [← hx.out]; exact ho) n hlt)
        have HO := Lib.hid ho
        clear ho
        go_wp2_with fail
        refine (specVHop _ _ _ _ _ _).mono ?_
        rintro e w2 ⟨he, m2⟩
        rw [HO.out] at he
        subst he
        go_wp2_with fail
        go_ret
        exact ⟨retB HE.out.symm, M0.trans (hM.trans m2)⟩
      · have HE := Lib.hid (show okUp zs (k + 1) = true by rw [okUp, hS.out, ← hx.out, ho]; rfl)
        have HO := Lib.hid ho
        clear ho
        go_wp2_with fail
        refine (specVHop _ _ _ _ _ _).mono ?_
        rintro e w2 ⟨he, m2⟩
        rw [HO.out] at he
        subst he
        go_wp2_with fail
        go_roundw
        case rel => exact ⟨rfl, k + 1, by omega, by go_num, HE.out, (hM.trans m2)⟩
        case measure => simp [intOf]; omega
    · obtain rfl : k = n := by omega
      go_wp2_with fail
      go_ret
      exact ⟨retB (by rw [HR.out, hS.out]), hM'⟩

set_option maxRecDepth 100000 in
set_option maxHeartbeats 2000000 in
theorem implEnc (x0 x1 : Int) (a : Option Addr) (n c B : Nat) (zs : List THop) (w : World) (h : HasHop w B a n zs) (hB : B ≤ w.heap.size) (hn : n ≤ 1048576) :
    Calls Try.prog 174 #[.agg #[.int .i64 x0, .int .i64 x1, .slice a n c]] w fun e w' => e = .returned (.bool (encB x0 x1 zs n)) ∧ Mk0 w w' := by
  have M0 := Mk.alloc w (Obj.cells #[Value.int .i64 x0, Value.int .i64 x1, Value.slice a n c] 31)
  by_cases ht : x0 < 0 ∨ 1000000 < x0
  · have HR := Lib.hid (show encB x0 x1 zs n = false from if_neg (by omega))
    have HT := Lib.hid ht
    clear ht
    go_enter Try.func174, Try.ntmps174
    go_wp2_with fail
    refine (implTimeNo _ _ HT.out).mono ?_
    rintro e w' ⟨rfl, rfl⟩
    go_wp2_with fail
    go_ret
    exact ⟨retB HR.out.symm, M0⟩
  have t1 : 0 ≤ x0 := by omega
  have t2 : x0 ≤ 1000000 := by omega
  by_cases hr : x1 < 0 ∨ 2147483646 < x1
  · have HR := Lib.hid (show encB x0 x1 zs n = false from if_neg (by omega))
    clear ht
    have HT := Lib.hid hr
    clear hr
    go_enter Try.func174, Try.ntmps174
    go_wp2_with fail
    refine (implTimeYes _ _ (by omega) (by omega)).mono ?_
    rintro e w' ⟨rfl, rfl⟩
    go_wp2_with fail
    refine (implResNo _ _ HT.out).mono ?_
    rintro e w' ⟨rfl, rfl⟩
    go_wp2_with fail
    go_ret
    exact ⟨retB HR.out.symm, M0⟩
  have r1 : 0 ≤ x1 := by omega
  have r2 : x1 ≤ 2147483646 := by omega
  by_cases hm : 8 < n
  · have HR := Lib.hid (show encB x0 x1 zs n = false from if_neg (by omega))
    clear ht hr
    go_enter Try.func174, Try.ntmps174
    go_wp2_with fail
    refine (implTimeYes _ _ (by omega) (by omega)).mono ?_
    rintro e w' ⟨rfl, rfl⟩
    go_wp2_with fail
    refine (implResYes _ _ (by omega) (by omega)).mono ?_
    rintro e w' ⟨rfl, rfl⟩
    go_wp2_with fail
    go_ret
    exact ⟨retB HR.out.symm, M0⟩
  have h8 : n ≤ 8 := by omega
  have HR := Lib.hid (show encB x0 x1 zs n = okUp zs n from if_pos ⟨by omega, by omega, h8⟩)
  clear ht hr hm
  go_enter Try.func174, Try.ntmps174
  go_wp2_with fail
  refine (implTimeYes _ _ (by omega) (by omega)).mono ?_
  rintro e w' ⟨rfl, rfl⟩
  go_wp2_with fail
  refine (implResYes _ _ (by omega) (by omega)).mono ?_
  rintro e w' ⟨rfl, rfl⟩
  go_wp2_with fail
  go_loopw [2, 24] (fun r i wr => r = .bool false ∧ ∃ k : Nat, k ≤ n ∧ i = .int .i64 k ∧ Hid (okUp zs k = true) ∧ Mk0 (w.alloc (Obj.cells #[Value.int .i64 x0, Value.int .i64 x1, Value.slice a n c] 31)) wr) (fun _ i _ => n - (intOf i).toNat)
  case atStart => exact ⟨rfl, 0, Nat.zero_le _, rfl, rfl, Mk.refl _ _ _⟩
  case round =>
    obtain ⟨rfl, k, hk, rfl, hS, hM⟩ := hrel
    have k2 : wr.cell? ⟨w.heap.size, 2, none⟩ = some (.slice a n c) := hM.cellAt (by simp [go_sem])
    have hM' := M0.trans hM
    by_cases hlt : k < n
    · obtain ⟨b, off, x, rfl, hb, hx, d0, d1, d2, d3, d4⟩ := HasHop.at _ _ _ _ _ _ (h.mk hM' hB (.inr (Nat.le_refl _))) hlt
      have hbr := World.block_lt_of_cell? _ _ d0
      simp only at hbr
      cases ho : hopOk x
      · have HE := Lib.hid (show encB x0 x1 zs n = false by rw [HR.out]; exact okUp_stop (by rw [← hx.out]; exact ho) n hlt)
        have HO := Lib.hid ho
        clear ho
        go_wp2_with fail
        refine (implVHop _ _ _ _ _ _).mono ?_
        rintro e w2 ⟨he, m2⟩
        rw [HO.out] at he
        subst he
        go_wp2_with fail
        go_ret
        exact ⟨retB HE.out.symm, M0.trans (hM.trans ((Mk.alloc _ _).trans m2))⟩
      · have HE := Lib.hid (show okUp zs (k + 1) = true by rw [okUp, hS.out, ← hx.out, ho]; rfl)
        have HO := Lib.hid ho
        clear ho
        go_wp2_with fail
        refine (implVHop _ _ _ _ _ _).mono ?_
        rintro e w2 ⟨he, m2⟩
        rw [HO.out] at he
        subst he
        go_wp2_with fail
        go_roundw
        case rel => exact ⟨rfl, k + 1, by omega, by go_num, HE.out, (hM.trans ((Mk.alloc _ _).trans m2))⟩
        case measure => simp [intOf]; omega
    · obtain rfl : k = n := by omega
      go_wp2_with fail
      go_ret
      exact ⟨retB (by rw [HR.out, hS.out]), hM'⟩

end Go.Proofs.Ytpfjjfbheliinaa
