
/- What is reached by steps, by the program. -/
import Derived.Test.YtjlglppknemffaaNa
import Derived.Test.YtjlglppknemffaaKindOf
namespace Go.Proofs.Ytjlglppknemffaa
open Go.ChangeShapes Go.WideShapes Go.ChangeAt Go.RowKit
set_option linter.unusedVariables false
theorem implNa (a0 a1 : Option Addr) (n0 c0 n1 c1 B : Nat) (zl : List TLink) (s kd : Int) (w : World) (hl : HasLink w B a1 n1 zl) (hB : B ≤ w.heap.size) (hn1 : n1 ≤ 1048576) :
    Calls Try.prog 80 #[.agg #[.slice a0 n0 c0, .slice a1 n1 c1], .int .i64 s, .int .i64 kd] w fun e w' => e = .returned (.int .i64 (uS zl n1 kd s)) ∧ Mk0 w w' :=
  (callsIn_wide.1 (na_in a0 a1 n0 c0 n1 c1 B zl s kd w hl hB hn1)).mono fun e w' ⟨p, q⟩ => ⟨p, Mk.of_below q⟩
set_option maxRecDepth 100000 in
set_option maxHeartbeats 4000000 in
theorem implReached10 (a0 a1 : Option Addr) (n0 c0 n1 c1 B : Nat) (zl : List TLink) (r kd : Int) (w : World) (hl : HasLink w B a1 n1 zl) (hB : B ≤ w.heap.size) (hn1 : n1 ≤ 1048576) :
    Calls Try.prog 72 #[.agg #[.slice a0 n0 c0, .slice a1 n1 c1], .int .i64 r, .int .i64 kd, .int .i64 10] w fun e w' => e = .returned (.int .i64 (itP zl n1 kd (nbS zl n1 r kd) 9)) ∧ Mk0 w w' := by
  have M0 := Mk.alloc w (Obj.cells #[Value.slice a0 n0 c0, Value.slice a1 n1 c1] 31)
  have k0 : (w.alloc (Obj.cells #[Value.slice a0 n0 c0, Value.slice a1 n1 c1] 31)).cell? ⟨w.heap.size, 0, none⟩ = some (.slice a0 n0 c0) := by simp [go_sem]
  have k1 : (w.alloc (Obj.cells #[Value.slice a0 n0 c0, Value.slice a1 n1 c1] 31)).cell? ⟨w.heap.size, 1, none⟩ = some (.slice a1 n1 c1) := by simp [go_sem]
  go_enter Try.func72, Try.ntmps72
  go_wp2_with fail
  go_step3
  go_wp2_with fail
  refine (implNb a0 a1 n0 c0 n1 c1 B zl r kd _ (hl.mk M0 hB (.inr (Nat.le_refl _))) (Nat.le_trans hB M0.size) hn1).mono ?_
  rintro e w2 ⟨rfl, m2⟩
  replace k0 := m2.cellAt k0
  replace k1 := m2.cellAt k1
  have M2 := M0.trans m2
  have HV := Lib.hid (fun k => itP_VS (zl := zl) (n1 := n1) (kd := kd) (nbS_VS zl n1 r kd) k)
  obtain ⟨s0, hs0⟩ : ∃ s0, Hid (s0 = nbS zl n1 r kd) := ⟨_, Lib.hid rfl⟩
  rw [← hs0.out] at HV ⊢
  go_wp2_with fail
  go_step3
  go_wp2_with fail
  go_loopw [9, 17] (fun v i wr => ∃ k : Nat, k ≤ 9 ∧ i = .int .i64 k ∧ v = .int .i64 (itP zl n1 kd s0 k) ∧ Mk0 w2 wr) (fun _ i _ => 9 - (intOf i).toNat)
  case atStart => exact ⟨0, by omega, rfl, rfl, Mk.refl _ _ _⟩
  case round =>
    obtain ⟨k, hk, rfl, rfl, hM⟩ := hrel
    replace k0 := hM.cellAt k0
    replace k1 := hM.cellAt k1
    have hM' := M2.trans hM
    have HS := Lib.hid (show itP zl n1 kd s0 (k + 1) = pS zl n1 kd (itP zl n1 kd s0 k) from rfl)
    obtain ⟨X, hX⟩ : ∃ X, Hid (X = itP zl n1 kd s0 k) := ⟨_, Lib.hid rfl⟩
    rw [← hX.out] at HS ⊢
    by_cases hlt : k < 9
    · go_wp2_with fail
      refine (implNa a0 a1 n0 c0 n1 c1 B zl X kd _ (hl.mk hM' hB (.inr (Nat.le_refl _))) (Nat.le_trans hB hM'.size) hn1).mono ?_
      rintro e w3 ⟨rfl, m3⟩
      go_wp2_with fail
      refine (implUni X (uS zl n1 kd X) _).mono ?_
      rintro e w' ⟨rfl, rfl⟩
      rw [show uniV X (uS zl n1 kd X) = pS zl n1 kd X from rfl]
      obtain ⟨Y, hY⟩ : ∃ Y, Hid (Y = pS zl n1 kd X) := ⟨_, Lib.hid rfl⟩
      rw [← hY.out] at HS ⊢
      cases he : (Y == X)
      · go_wp2_with fail
        go_roundw
        case rel => exact ⟨k + 1, by omega, by go_num, congrArg (Value.int .i64) HS.out.symm, hM.trans m3⟩
        case measure => simp [intOf]; omega
      · have HE := Lib.hid (show itP zl n1 kd (nbS zl n1 r kd) 9 = X by rw [← hs0.out, itP_stop (k := k) (by rw [HS.out, ← hX.out]; simpa using he) 9 (by omega), hX.out])
        go_wp2_with fail
        first | go_ret | (rw [Exit.noGoto_ret]; go_ret)
        exact ⟨retI HE.out.symm, hM'.trans m3⟩
    · obtain rfl : k = 9 := by omega
      go_wp2_with fail
      first | go_ret | (rw [Exit.noGoto_ret]; go_ret)
      exact ⟨retI (by rw [← hs0.out, hX.out]), hM'⟩

set_option maxRecDepth 100000 in
set_option maxHeartbeats 4000000 in
theorem implReached9 (a0 a1 : Option Addr) (n0 c0 n1 c1 B : Nat) (zl : List TLink) (r kd : Int) (w : World) (hl : HasLink w B a1 n1 zl) (hB : B ≤ w.heap.size) (hn1 : n1 ≤ 1048576) :
    Calls Try.prog 72 #[.agg #[.slice a0 n0 c0, .slice a1 n1 c1], .int .i64 r, .int .i64 kd, .int .i64 9] w fun e w' => e = .returned (.int .i64 (itP zl n1 kd (nbS zl n1 r kd) 8)) ∧ Mk0 w w' := by
  have M0 := Mk.alloc w (Obj.cells #[Value.slice a0 n0 c0, Value.slice a1 n1 c1] 31)
  have k0 : (w.alloc (Obj.cells #[Value.slice a0 n0 c0, Value.slice a1 n1 c1] 31)).cell? ⟨w.heap.size, 0, none⟩ = some (.slice a0 n0 c0) := by simp [go_sem]
  have k1 : (w.alloc (Obj.cells #[Value.slice a0 n0 c0, Value.slice a1 n1 c1] 31)).cell? ⟨w.heap.size, 1, none⟩ = some (.slice a1 n1 c1) := by simp [go_sem]
  go_enter Try.func72, Try.ntmps72
  go_wp2_with fail
  go_step3
  go_wp2_with fail
  refine (implNb a0 a1 n0 c0 n1 c1 B zl r kd _ (hl.mk M0 hB (.inr (Nat.le_refl _))) (Nat.le_trans hB M0.size) hn1).mono ?_
  rintro e w2 ⟨rfl, m2⟩
  replace k0 := m2.cellAt k0
  replace k1 := m2.cellAt k1
  have M2 := M0.trans m2
  have HV := Lib.hid (fun k => itP_VS (zl := zl) (n1 := n1) (kd := kd) (nbS_VS zl n1 r kd) k)
  obtain ⟨s0, hs0⟩ : ∃ s0, Hid (s0 = nbS zl n1 r kd) := ⟨_, Lib.hid rfl⟩
  rw [← hs0.out] at HV ⊢
  go_wp2_with fail
  go_step3
  go_wp2_with fail
  go_loopw [9, 17] (fun v i wr => ∃ k : Nat, k ≤ 8 ∧ i = .int .i64 k ∧ v = .int .i64 (itP zl n1 kd s0 k) ∧ Mk0 w2 wr) (fun _ i _ => 8 - (intOf i).toNat)
  case atStart => exact ⟨0, by omega, rfl, rfl, Mk.refl _ _ _⟩
  case round =>
    obtain ⟨k, hk, rfl, rfl, hM⟩ := hrel
    replace k0 := hM.cellAt k0
    replace k1 := hM.cellAt k1
    have hM' := M2.trans hM
    have HS := Lib.hid (show itP zl n1 kd s0 (k + 1) = pS zl n1 kd (itP zl n1 kd s0 k) from rfl)
    obtain ⟨X, hX⟩ : ∃ X, Hid (X = itP zl n1 kd s0 k) := ⟨_, Lib.hid rfl⟩
    rw [← hX.out] at HS ⊢
    by_cases hlt : k < 8
    · go_wp2_with fail
      refine (implNa a0 a1 n0 c0 n1 c1 B zl X kd _ (hl.mk hM' hB (.inr (Nat.le_refl _))) (Nat.le_trans hB hM'.size) hn1).mono ?_
      rintro e w3 ⟨rfl, m3⟩
      go_wp2_with fail
      refine (implUni X (uS zl n1 kd X) _).mono ?_
      rintro e w' ⟨rfl, rfl⟩
      rw [show uniV X (uS zl n1 kd X) = pS zl n1 kd X from rfl]
      obtain ⟨Y, hY⟩ : ∃ Y, Hid (Y = pS zl n1 kd X) := ⟨_, Lib.hid rfl⟩
      rw [← hY.out] at HS ⊢
      cases he : (Y == X)
      · go_wp2_with fail
        go_roundw
        case rel => exact ⟨k + 1, by omega, by go_num, congrArg (Value.int .i64) HS.out.symm, hM.trans m3⟩
        case measure => simp [intOf]; omega
      · have HE := Lib.hid (show itP zl n1 kd (nbS zl n1 r kd) 8 = X by rw [← hs0.out, itP_stop (k := k) (by rw [HS.out, ← hX.out]; simpa using he) 8 (by omega), hX.out])
        go_wp2_with fail
        first | go_ret | (rw [Exit.noGoto_ret]; go_ret)
        exact ⟨retI HE.out.symm, hM'.trans m3⟩
    · obtain rfl : k = 8 := by omega
      go_wp2_with fail
      first | go_ret | (rw [Exit.noGoto_ret]; go_ret)
      exact ⟨retI (by rw [← hs0.out, hX.out]), hM'⟩

set_option maxRecDepth 100000 in
set_option maxHeartbeats 4000000 in
theorem implAncestors (a0 a1 : Option Addr) (n0 c0 n1 c1 B : Nat) (zl : List TLink) (r : Int) (w : World) (hl : HasLink w B a1 n1 zl) (hB : B ≤ w.heap.size) (hn1 : n1 ≤ 1048576) :
    Calls Try.prog 32 #[.agg #[.slice a0 n0 c0, .slice a1 n1 c1], .int .i64 r] w fun e w' => e = .returned (.int .i64 (itP zl n1 3 (nbS zl n1 r 3) 9)) ∧ Mk0 w w' := by
  have M0 := Mk.alloc w (Obj.cells #[Value.slice a0 n0 c0, Value.slice a1 n1 c1] 31)
  have k0 : (w.alloc (Obj.cells #[Value.slice a0 n0 c0, Value.slice a1 n1 c1] 31)).cell? ⟨w.heap.size, 0, none⟩ = some (.slice a0 n0 c0) := by simp [go_sem]
  have k1 : (w.alloc (Obj.cells #[Value.slice a0 n0 c0, Value.slice a1 n1 c1] 31)).cell? ⟨w.heap.size, 1, none⟩ = some (.slice a1 n1 c1) := by simp [go_sem]
  go_enter Try.func32, Try.ntmps32
  go_wp2_with fail
  refine (implReached10 a0 a1 n0 c0 n1 c1 B zl r 3 _ (hl.mk M0 hB (.inr (Nat.le_refl _))) (Nat.le_trans hB M0.size) hn1).mono ?_
  rintro e w2 ⟨rfl, m2⟩
  go_wp2_with fail
  go_ret
  exact ⟨rfl, M0.trans m2⟩

set_option maxRecDepth 100000 in
set_option maxHeartbeats 4000000 in
theorem implDescendants (a0 a1 : Option Addr) (n0 c0 n1 c1 B : Nat) (zl : List TLink) (r : Int) (w : World) (hl : HasLink w B a1 n1 zl) (hB : B ≤ w.heap.size) (hn1 : n1 ≤ 1048576) :
    Calls Try.prog 34 #[.agg #[.slice a0 n0 c0, .slice a1 n1 c1], .int .i64 r] w fun e w' => e = .returned (.int .i64 (itP zl n1 2 (nbS zl n1 r 2) 9)) ∧ Mk0 w w' := by
  have M0 := Mk.alloc w (Obj.cells #[Value.slice a0 n0 c0, Value.slice a1 n1 c1] 31)
  have k0 : (w.alloc (Obj.cells #[Value.slice a0 n0 c0, Value.slice a1 n1 c1] 31)).cell? ⟨w.heap.size, 0, none⟩ = some (.slice a0 n0 c0) := by simp [go_sem]
  have k1 : (w.alloc (Obj.cells #[Value.slice a0 n0 c0, Value.slice a1 n1 c1] 31)).cell? ⟨w.heap.size, 1, none⟩ = some (.slice a1 n1 c1) := by simp [go_sem]
  go_enter Try.func34, Try.ntmps34
  go_wp2_with fail
  refine (implReached10 a0 a1 n0 c0 n1 c1 B zl r 2 _ (hl.mk M0 hB (.inr (Nat.le_refl _))) (Nat.le_trans hB M0.size) hn1).mono ?_
  rintro e w2 ⟨rfl, m2⟩
  go_wp2_with fail
  go_ret
  exact ⟨rfl, M0.trans m2⟩

/-- The levels above. -/
def lvU (zl : List TLink) (n1 : Nat) (s : Int) : Nat → Int
  | 0 => s
  | k + 1 => uS zl n1 3 (lvU zl n1 s k)
/-- How many levels from the first on hold anything, at most m. -/
def dpU (zl : List TLink) (n1 : Nat) (s : Int) : Nat → Nat
  | 0 => 0
  | k + 1 => if dpU zl n1 s k = k ∧ lvU zl n1 s k ≠ 0 then k + 1 else dpU zl n1 s k
theorem dpU_le (zl : List TLink) (n1 : Nat) (s : Int) : ∀ k, dpU zl n1 s k ≤ k
  | 0 => Nat.le_refl _
  | k + 1 => by
    have := dpU_le zl n1 s k
    rw [dpU]
    split <;> omega
theorem dpU_stop {zl : List TLink} {n1 : Nat} {s : Int} {k : Nat} (h : dpU zl n1 s k = k) (h0 : lvU zl n1 s k = 0) : ∀ n, k ≤ n → dpU zl n1 s n = k
  | 0, hn => by obtain rfl : k = 0 := by omega
                exact h
  | n + 1, hn => by
    by_cases e : k = n + 1
    · subst e; exact h
    · have := dpU_stop h h0 n (by omega)
      rw [dpU, this, if_neg]
      rintro ⟨a, b⟩
      subst a
      exact b h0
theorem dpU_go {zl : List TLink} {n1 : Nat} {s : Int} {k : Nat} (h : dpU zl n1 s k = k) (h0 : lvU zl n1 s k ≠ 0) : dpU zl n1 s (k + 1) = k + 1 := by rw [dpU, if_pos ⟨h, h0⟩]
set_option maxRecDepth 100000 in
set_option maxHeartbeats 4000000 in
theorem implDepth (a0 a1 : Option Addr) (n0 c0 n1 c1 B : Nat) (zl : List TLink) (r : Int) (w : World) (hl : HasLink w B a1 n1 zl) (hB : B ≤ w.heap.size) (hn1 : n1 ≤ 1048576) :
    Calls Try.prog 38 #[.agg #[.slice a0 n0 c0, .slice a1 n1 c1], .int .i64 r] w fun e w' => e = .returned (.int .i64 ((dpU zl n1 (nbS zl n1 r 3) 8 : Nat) : Int)) ∧ Mk0 w w' := by
  have M0 := Mk.alloc w (Obj.cells #[Value.slice a0 n0 c0, Value.slice a1 n1 c1] 31)
  have k0 : (w.alloc (Obj.cells #[Value.slice a0 n0 c0, Value.slice a1 n1 c1] 31)).cell? ⟨w.heap.size, 0, none⟩ = some (.slice a0 n0 c0) := by simp [go_sem]
  have k1 : (w.alloc (Obj.cells #[Value.slice a0 n0 c0, Value.slice a1 n1 c1] 31)).cell? ⟨w.heap.size, 1, none⟩ = some (.slice a1 n1 c1) := by simp [go_sem]
  go_enter Try.func38, Try.ntmps38
  go_wp2_with fail
  refine (implNb a0 a1 n0 c0 n1 c1 B zl r 3 _ (hl.mk M0 hB (.inr (Nat.le_refl _))) (Nat.le_trans hB M0.size) hn1).mono ?_
  rintro e w2 ⟨rfl, m2⟩
  replace k0 := m2.cellAt k0
  replace k1 := m2.cellAt k1
  have M2 := M0.trans m2
  obtain ⟨s0, hs0⟩ : ∃ s0, Hid (s0 = nbS zl n1 r 3) := ⟨_, Lib.hid rfl⟩
  rw [← hs0.out]
  go_wp2_with fail
  go_loopw [5, 6] (fun d v wr => ∃ k : Nat, k ≤ 8 ∧ d = .int .i64 k ∧ v = .int .i64 (lvU zl n1 s0 k) ∧ Hid (dpU zl n1 s0 k = k) ∧ Mk0 w2 wr) (fun d _ _ => 8 - (intOf d).toNat)
  case atStart => exact ⟨0, by omega, rfl, rfl, rfl, Mk.refl _ _ _⟩
  case round =>
    obtain ⟨k, hk, rfl, rfl, hD, hM⟩ := hrel
    replace k0 := hM.cellAt k0
    replace k1 := hM.cellAt k1
    have hM' := M2.trans hM
    obtain ⟨X, hX⟩ : ∃ X, Hid (X = lvU zl n1 s0 k) := ⟨_, Lib.hid rfl⟩
    rw [← hX.out]
    by_cases hlt : k < 8
    · have q1 : decide ((k : Int) < 8) = true := decide_eq_true (by omega)
      cases h0 : (X == 0)
      · have h0' : (X != 0) = true := by simp only [bne, h0]; rfl
        have HD := Lib.hid (dpU_go hD.out (by rw [← hX.out]; simpa using h0))
        have HX := Lib.hid (show lvU zl n1 s0 (k + 1) = uS zl n1 3 X by rw [lvU, hX.out])
        clear h0
        go_wp2_with fail
        refine (implNa a0 a1 n0 c0 n1 c1 B zl X 3 _ (hl.mk hM' hB (.inr (Nat.le_refl _))) (Nat.le_trans hB hM'.size) hn1).mono ?_
        rintro e w3 ⟨rfl, m3⟩
        go_wp2_with fail
        go_roundw
        case rel => exact ⟨k + 1, by omega, by go_num, congrArg (Value.int .i64) HX.out.symm, HD, hM.trans m3⟩
        case measure => simp [intOf]; omega
      · have h0' : (X != 0) = false := by simp only [bne, h0]; rfl
        have HE := Lib.hid (dpU_stop hD.out (by rw [← hX.out]; simpa using h0) 8 hk)
        clear h0
        go_wp2_with fail
        go_ret
        exact ⟨retI (by rw [← hs0.out, HE.out]), hM'⟩
    · obtain rfl : k = 8 := by omega
      go_wp2_with fail
      go_ret
      exact ⟨retI (by rw [← hs0.out, hD.out]), hM'⟩

end Go.Proofs.Ytjlglppknemffaa
