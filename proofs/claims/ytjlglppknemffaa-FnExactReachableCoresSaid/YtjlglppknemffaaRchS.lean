
/- What is reached by steps, by the model. -/
import Derived.Test.YtjlglppknemffaaRchI
import Derived.Test.YtjlglppknemffaaMakeSet
import Derived.Deep.RegionHeld3
namespace Go.Proofs.Ytjlglppknemffaa
open Go.ChangeShapes Go.WideShapes Go.ChangeAt Go.RowKit
set_option linter.unusedVariables false
theorem naL_take (zl : List TLink) (n1 : Nat) (kd s : Int) (L : List Int) {j : Nat} (h : j < L.length) : naL zl n1 kd s (L.take (j + 1)) = uniV (naL zl n1 kd s (L.take j)) (nbS zl n1 (L.getD j 0) kd) := by
  have e : L.take (j + 1) = L.take j ++ [L.getD j 0] := by
    rw [List.take_succ_eq_append_getElem h, List.getD_eq_getElem?_getD, List.getElem?_eq_getElem h]
    rfl
  rw [e, naL_snoc]
set_option maxRecDepth 100000 in
set_option maxHeartbeats 4000000 in
theorem specReach (a0 a1 : Option Addr) (n0 c0 n1 c1 B : Nat) (zl : List TLink) (s kd : Int) (w : World) (hl : HasLink w B a1 n1 zl) (hB : B ≤ w.heap.size) (hn1 : n1 ≤ 1048576) (hv : VS s) :
    Calls Try.prog 70 #[.agg #[.slice a0 n0 c0, .slice a1 n1 c1], .int .i64 s, .int .i64 kd] w fun e w' => e = .returned (.int .i64 (itP zl n1 kd s 9)) ∧ Mk0 w w' := by
  have M0 := Mk.alloc w (Obj.cells #[Value.slice a0 n0 c0, Value.slice a1 n1 c1] 31)
  have k0 : (w.alloc (Obj.cells #[Value.slice a0 n0 c0, Value.slice a1 n1 c1] 31)).cell? ⟨w.heap.size, 0, none⟩ = some (.slice a0 n0 c0) := by simp [go_sem]
  have k1 : (w.alloc (Obj.cells #[Value.slice a0 n0 c0, Value.slice a1 n1 c1] 31)).cell? ⟨w.heap.size, 1, none⟩ = some (.slice a1 n1 c1) := by simp [go_sem]
  have HV := Lib.hid (fun k => itP_VS (zl := zl) (n1 := n1) (kd := kd) hv k)
  clear hv
  go_enter Try.func70, Try.ntmps70
  go_wp2_with fail
  go_loopw [7, 8] (fun v i wr => ∃ k : Nat, k ≤ 9 ∧ i = .int .i64 k ∧ v = .int .i64 (itP zl n1 kd s k) ∧ Mk0 (w.alloc (Obj.cells #[Value.slice a0 n0 c0, Value.slice a1 n1 c1] 31)) wr) (fun _ i _ => 9 - (intOf i).toNat)
  case atStart => exact ⟨0, by omega, rfl, rfl, Mk.refl _ _ _⟩
  case round =>
    obtain ⟨k, hk, rfl, rfl, hM⟩ := hrel
    replace k0 := hM.cellAt k0
    replace k1 := hM.cellAt k1
    have hM' := M0.trans hM
    have HX := Lib.hid (HV.out k)
    have HS := Lib.hid (show itP zl n1 kd s (k + 1) = pS zl n1 kd (itP zl n1 kd s k) from rfl)
    obtain ⟨X, hX⟩ : ∃ X, Hid (X = itP zl n1 kd s k) := ⟨_, Lib.hid rfl⟩
    rw [← hX.out] at HS HX ⊢
    by_cases hlt : k < 9
    · have q1 : decide ((k : Int) ≤ 8) = true := decide_eq_true (by omega)
      go_wp2_with fail
      refine (specElements X _).mono ?_
      rintro e w3 ⟨A, N, C, rfl, hcA, oA, b3⟩
      have m3 := Mk.of_below b3
      replace k0 := m3.cellAt k0
      replace k1 := m3.cellAt k1
      have N3 := hM.trans m3
      have M3 := hM'.trans m3
      have hN := oA.1
      have hN16 : N ≤ 16 := by have := elN_len X 16; omega
      have HH := Lib.hid oA.has
      have HN := Lib.hid hN
      clear oA hN b3 m3 hcA hM hM'
      go_wp2_with fail
      go_loopw [7, 10] (fun v i wi => ∃ j : Nat, j ≤ N ∧ i = .int .i64 j ∧ v = .int .i64 (naL zl n1 kd X ((elN X 16).take j)) ∧ Mk0 w3 wi) (fun _ i _ => N - (intOf i).toNat)
      case atStart => exact ⟨0, Nat.zero_le _, rfl, rfl, Mk.refl _ _ _⟩
      case round =>
        obtain ⟨j, hj, rfl, rfl, hM⟩ := hrel
        replace k0 := hM.cellAt k0
        replace k1 := hM.cellAt k1
        have hM' := M3.trans hM
        by_cases hlj : j < N
        · have hH2 := HH.out.mk2 hM
          obtain ⟨b, off, x, rfl, hb, hx, ci⟩ := hH2.at_ hlj
          clear hH2
          have i1 : (0 : Int) ≤ (j : Int) := by omega
          have i2 : (j : Int) < (N : Int) := by omega
          have HE := Lib.hid (show naL zl n1 kd X ((elN X 16).take (j + 1)) = uniV (naL zl n1 kd X ((elN X 16).take j)) (nbS zl n1 x kd) by rw [naL_take _ _ _ _ _ (by rw [HN.out]; exact hlj), ← hx.out])
          obtain ⟨Y, hY⟩ : ∃ Y, Hid (Y = naL zl n1 kd X ((elN X 16).take j)) := ⟨_, Lib.hid rfl⟩
          rw [← hY.out] at HE ⊢
          have e1 : ∀ w', Mk0 wr w' → HasLink w' B a1 n1 zl := fun w' m => hl.mk (hM'.trans m) hB (.inr (Nat.le_refl _))
          have e2 : ∀ w', Mk0 wr w' → B ≤ w'.heap.size := fun w' m => Nat.le_trans hB (hM'.trans m).size
          go_wp2_with fail
          go_region_held3 (fun w' => Mk0 wr w' ∧ w'.cell? ⟨w.heap.size, 0, none⟩ = some (.slice a0 n0 c0) ∧ w'.cell? ⟨w.heap.size, 1, none⟩ = some (.slice a1 n1 c1) ∧ w'.cell? ⟨b, off + j, none⟩ = some (.int .i64 x)) (first | exact ⟨Mk.drew1 _, k0, k1, ci⟩ | (obtain ⟨s0, s1, s2, s3⟩ := ‹Mk0 wr _ ∧ _›; exact ⟨s0.trans mm, mm.cellAt s1, mm.cellAt s2, mm.cellAt s3⟩)) (first | (go_at_call 67; (with_reducible refine (specNb a0 a1 n0 c0 n1 c1 B zl x kd _ (e1 _ (‹Mk0 wr _ ∧ _›).1) (e2 _ (‹Mk0 wr _ ∧ _›).1) hn1).mono ?_); rintro e wb ⟨Ab, Nb, Cb, rfl, hcb, ob, bb⟩; have mm := Mk.of_below bb; have hNb : Nb ≤ 16 := (by have h1 := ob.1; have h2 := elN_len (nbS zl n1 x kd) 16; omega)) | (go_at_call 71; refine (specMakeSet Ab Nb Cb wb.heap.size _ _ ob.has (by omega)).mono ?_; rintro e wm ⟨he, rfl⟩; have hms : e = .returned (.int .i64 (nbS zl n1 x kd)) := he.trans (retI (by rw [← ob.1, msN_elN (nbS_VS _ _ _ _)])); clear he; subst hms; have mm := Mk.refl 0 0 wb) | (go_at_call 79; refine (specUni _ _ _).mono ?_; rintro e wu ⟨rfl, rfl⟩; have mm := Mk.refl 0 0 wb))
          obtain ⟨mE, k0, k1, ci⟩ := ‹Mk0 wr _ ∧ _›
          refine ‹∀ (a : Act) (w : World), _ → _› _ _ ?_
          go_wp2_with fail
          go_roundw
          case rel => exact ⟨j + 1, by omega, by go_num, congrArg (Value.int .i64) HE.out.symm, hM.trans mE⟩
          case measure => simp [intOf]; omega
        · obtain rfl : j = N := by omega
          have HE := Lib.hid (show naL zl n1 kd X ((elN X 16).take j) = itP zl n1 kd s (k + 1) by rw [HS.out, List.take_of_length_le (by rw [HN.out]; exact Nat.le_refl _), naL_pS HX.out])
          go_wp2_with fail
          go_roundw
          case rel => exact ⟨k + 1, by omega, by go_num, congrArg (Value.int .i64) HE.out, N3.trans hM⟩
          case measure => simp [intOf]; omega
    · have q1 : decide ((k : Int) ≤ 8) = false := decide_eq_false (by omega)
      obtain rfl : k = 9 := by omega
      go_wp2_with fail
      go_ret
      exact ⟨retI hX.out, hM'⟩

set_option maxRecDepth 100000 in
set_option maxHeartbeats 4000000 in
theorem specAncestors (a0 a1 : Option Addr) (n0 c0 n1 c1 B : Nat) (zl : List TLink) (r : Int) (w : World) (hl : HasLink w B a1 n1 zl) (hB : B ≤ w.heap.size) (hn1 : n1 ≤ 1048576) :
    Calls Try.prog 31 #[.agg #[.slice a0 n0 c0, .slice a1 n1 c1], .int .i64 r] w fun e w' => e = .returned (.int .i64 (itP zl n1 3 (nbS zl n1 r 3) 9)) ∧ Mk0 w w' := by
  have M0 := Mk.alloc w (Obj.cells #[Value.slice a0 n0 c0, Value.slice a1 n1 c1] 31)
  have k0 : (w.alloc (Obj.cells #[Value.slice a0 n0 c0, Value.slice a1 n1 c1] 31)).cell? ⟨w.heap.size, 0, none⟩ = some (.slice a0 n0 c0) := by simp [go_sem]
  have k1 : (w.alloc (Obj.cells #[Value.slice a0 n0 c0, Value.slice a1 n1 c1] 31)).cell? ⟨w.heap.size, 1, none⟩ = some (.slice a1 n1 c1) := by simp [go_sem]
  have e1 : ∀ w', Mk0 (w.alloc (Obj.cells #[Value.slice a0 n0 c0, Value.slice a1 n1 c1] 31)) w' → HasLink w' B a1 n1 zl := fun w' m => hl.mk (M0.trans m) hB (.inr (Nat.le_refl _))
  have e2 : ∀ w', Mk0 (w.alloc (Obj.cells #[Value.slice a0 n0 c0, Value.slice a1 n1 c1] 31)) w' → B ≤ w'.heap.size := fun w' m => Nat.le_trans hB (M0.trans m).size
  go_enter Try.func31, Try.ntmps31
  go_wp2_with fail
  go_region_held3 (fun w' => Mk0 (w.alloc (Obj.cells #[Value.slice a0 n0 c0, Value.slice a1 n1 c1] 31)) w' ∧ w'.cell? ⟨w.heap.size, 0, none⟩ = some (.slice a0 n0 c0) ∧ w'.cell? ⟨w.heap.size, 1, none⟩ = some (.slice a1 n1 c1)) (first | exact ⟨Mk.drew1 _, k0, k1⟩ | (obtain ⟨s0, s1, s2⟩ := ‹Mk0 (w.alloc (Obj.cells #[Value.slice a0 n0 c0, Value.slice a1 n1 c1] 31)) _ ∧ _›; exact ⟨s0.trans mm, mm.cellAt s1, mm.cellAt s2⟩)) (first | (go_at_call 27; (with_reducible refine (specParents a0 a1 n0 c0 n1 c1 B zl r _ (e1 _ (‹Mk0 (w.alloc (Obj.cells #[Value.slice a0 n0 c0, Value.slice a1 n1 c1] 31)) _ ∧ _›).1) (e2 _ (‹Mk0 (w.alloc (Obj.cells #[Value.slice a0 n0 c0, Value.slice a1 n1 c1] 31)) _ ∧ _›).1) hn1).mono ?_); rintro e wb ⟨Ab, Nb, Cb, rfl, hcb, ob, bb⟩; have mm := Mk.of_below bb; have hNb : Nb ≤ 16 := (by have h1 := ob.1; have h2 := elN_len (nbS zl n1 r 3) 16; omega)) | (go_at_call 71; refine (specMakeSet Ab Nb Cb wb.heap.size _ _ ob.has (by omega)).mono ?_; rintro e wm ⟨he, rfl⟩; have hms : e = .returned (.int .i64 (nbS zl n1 r 3)) := he.trans (retI (by rw [← ob.1, msN_elN (nbS_VS _ _ _ _)])); clear he; subst hms; have mm := Mk.refl 0 0 wb) | (go_at_call 70; refine (specReach a0 a1 n0 c0 n1 c1 B zl (nbS zl n1 r 3) 3 _ (e1 _ (‹Mk0 (w.alloc (Obj.cells #[Value.slice a0 n0 c0, Value.slice a1 n1 c1] 31)) _ ∧ _›).1) (e2 _ (‹Mk0 (w.alloc (Obj.cells #[Value.slice a0 n0 c0, Value.slice a1 n1 c1] 31)) _ ∧ _›).1) hn1 (nbS_VS _ _ _ _)).mono ?_; rintro e wu ⟨rfl, mm⟩))
  obtain ⟨mE, k0, k1⟩ := ‹Mk0 (w.alloc (Obj.cells #[Value.slice a0 n0 c0, Value.slice a1 n1 c1] 31)) _ ∧ _›
  refine ‹∀ (a : Act) (w : World), _ → _› _ _ ?_
  go_wp2_with fail
  go_ret
  exact ⟨rfl, M0.trans mE⟩

set_option maxRecDepth 100000 in
set_option maxHeartbeats 4000000 in
theorem specDescendants (a0 a1 : Option Addr) (n0 c0 n1 c1 B : Nat) (zl : List TLink) (r : Int) (w : World) (hl : HasLink w B a1 n1 zl) (hB : B ≤ w.heap.size) (hn1 : n1 ≤ 1048576) :
    Calls Try.prog 33 #[.agg #[.slice a0 n0 c0, .slice a1 n1 c1], .int .i64 r] w fun e w' => e = .returned (.int .i64 (itP zl n1 2 (nbS zl n1 r 2) 9)) ∧ Mk0 w w' := by
  have M0 := Mk.alloc w (Obj.cells #[Value.slice a0 n0 c0, Value.slice a1 n1 c1] 31)
  have k0 : (w.alloc (Obj.cells #[Value.slice a0 n0 c0, Value.slice a1 n1 c1] 31)).cell? ⟨w.heap.size, 0, none⟩ = some (.slice a0 n0 c0) := by simp [go_sem]
  have k1 : (w.alloc (Obj.cells #[Value.slice a0 n0 c0, Value.slice a1 n1 c1] 31)).cell? ⟨w.heap.size, 1, none⟩ = some (.slice a1 n1 c1) := by simp [go_sem]
  have e1 : ∀ w', Mk0 (w.alloc (Obj.cells #[Value.slice a0 n0 c0, Value.slice a1 n1 c1] 31)) w' → HasLink w' B a1 n1 zl := fun w' m => hl.mk (M0.trans m) hB (.inr (Nat.le_refl _))
  have e2 : ∀ w', Mk0 (w.alloc (Obj.cells #[Value.slice a0 n0 c0, Value.slice a1 n1 c1] 31)) w' → B ≤ w'.heap.size := fun w' m => Nat.le_trans hB (M0.trans m).size
  go_enter Try.func33, Try.ntmps33
  go_wp2_with fail
  go_region_held3 (fun w' => Mk0 (w.alloc (Obj.cells #[Value.slice a0 n0 c0, Value.slice a1 n1 c1] 31)) w' ∧ w'.cell? ⟨w.heap.size, 0, none⟩ = some (.slice a0 n0 c0) ∧ w'.cell? ⟨w.heap.size, 1, none⟩ = some (.slice a1 n1 c1)) (first | exact ⟨Mk.drew1 _, k0, k1⟩ | (obtain ⟨s0, s1, s2⟩ := ‹Mk0 (w.alloc (Obj.cells #[Value.slice a0 n0 c0, Value.slice a1 n1 c1] 31)) _ ∧ _›; exact ⟨s0.trans mm, mm.cellAt s1, mm.cellAt s2⟩)) (first | (go_at_call 29; (with_reducible refine (specChildren a0 a1 n0 c0 n1 c1 B zl r _ (e1 _ (‹Mk0 (w.alloc (Obj.cells #[Value.slice a0 n0 c0, Value.slice a1 n1 c1] 31)) _ ∧ _›).1) (e2 _ (‹Mk0 (w.alloc (Obj.cells #[Value.slice a0 n0 c0, Value.slice a1 n1 c1] 31)) _ ∧ _›).1) hn1).mono ?_); rintro e wb ⟨Ab, Nb, Cb, rfl, hcb, ob, bb⟩; have mm := Mk.of_below bb; have hNb : Nb ≤ 16 := (by have h1 := ob.1; have h2 := elN_len (nbS zl n1 r 2) 16; omega)) | (go_at_call 71; refine (specMakeSet Ab Nb Cb wb.heap.size _ _ ob.has (by omega)).mono ?_; rintro e wm ⟨he, rfl⟩; have hms : e = .returned (.int .i64 (nbS zl n1 r 2)) := he.trans (retI (by rw [← ob.1, msN_elN (nbS_VS _ _ _ _)])); clear he; subst hms; have mm := Mk.refl 0 0 wb) | (go_at_call 70; refine (specReach a0 a1 n0 c0 n1 c1 B zl (nbS zl n1 r 2) 2 _ (e1 _ (‹Mk0 (w.alloc (Obj.cells #[Value.slice a0 n0 c0, Value.slice a1 n1 c1] 31)) _ ∧ _›).1) (e2 _ (‹Mk0 (w.alloc (Obj.cells #[Value.slice a0 n0 c0, Value.slice a1 n1 c1] 31)) _ ∧ _›).1) hn1 (nbS_VS _ _ _ _)).mono ?_; rintro e wu ⟨rfl, mm⟩))
  obtain ⟨mE, k0, k1⟩ := ‹Mk0 (w.alloc (Obj.cells #[Value.slice a0 n0 c0, Value.slice a1 n1 c1] 31)) _ ∧ _›
  refine ‹∀ (a : Act) (w : World), _ → _› _ _ ?_
  go_wp2_with fail
  go_ret
  exact ⟨rfl, M0.trans mE⟩

set_option maxRecDepth 100000 in
set_option maxHeartbeats 4000000 in
theorem specDepth (a0 a1 : Option Addr) (n0 c0 n1 c1 B : Nat) (zl : List TLink) (r : Int) (w : World) (hl : HasLink w B a1 n1 zl) (hB : B ≤ w.heap.size) (hn1 : n1 ≤ 1048576) :
    Calls Try.prog 37 #[.agg #[.slice a0 n0 c0, .slice a1 n1 c1], .int .i64 r] w fun e w' => e = .returned (.int .i64 ((dpU zl n1 (nbS zl n1 r 3) 8 : Nat) : Int)) ∧ Mk0 w w' := by
  have M0 := Mk.alloc w (Obj.cells #[Value.slice a0 n0 c0, Value.slice a1 n1 c1] 31)
  have k0 : (w.alloc (Obj.cells #[Value.slice a0 n0 c0, Value.slice a1 n1 c1] 31)).cell? ⟨w.heap.size, 0, none⟩ = some (.slice a0 n0 c0) := by simp [go_sem]
  have k1 : (w.alloc (Obj.cells #[Value.slice a0 n0 c0, Value.slice a1 n1 c1] 31)).cell? ⟨w.heap.size, 1, none⟩ = some (.slice a1 n1 c1) := by simp [go_sem]
  go_enter Try.func37, Try.ntmps37
  go_wp2_with fail
  refine (specParents a0 a1 n0 c0 n1 c1 B zl r _ (hl.mk M0 hB (.inr (Nat.le_refl _))) (Nat.le_trans hB M0.size) hn1).mono ?_
  rintro e wb ⟨Ab, Nb, Cb, rfl, hcb, ob, bb⟩
  have m2 := Mk.of_below bb
  replace k0 := m2.cellAt k0
  replace k1 := m2.cellAt k1
  have M2 := M0.trans m2
  have hNb : Nb ≤ 16 := by have h1 := ob.1; have h2 := elN_len (nbS zl n1 r 3) 16; omega
  have hOb := ob.has
  have hl0 := ob.1
  have HL0 := Lib.hid hl0
  clear hl0 ob bb m2
  go_wp2_with fail
  refine (specMakeSet Ab Nb Cb wb.heap.size _ _ hOb (by omega)).mono ?_
  rintro e wm ⟨he, rfl⟩
  have hms : e = .returned (.int .i64 (nbS zl n1 r 3)) := he.trans (retI (by rw [← HL0.out, msN_elN (nbS_VS _ _ _ _)]))
  clear he
  subst hms
  have HV0 := Lib.hid (nbS_VS zl n1 r 3)
  obtain ⟨s0, hs0⟩ : ∃ s0, Hid (s0 = nbS zl n1 r 3) := ⟨_, Lib.hid rfl⟩
  rw [← hs0.out] at HV0 ⊢
  clear hOb
  go_wp2_with fail
  go_loopw [5, 6] (fun d v wr => ∃ k : Nat, k ≤ 8 ∧ d = .int .i64 k ∧ v = .int .i64 (lvU zl n1 s0 k) ∧ Hid (dpU zl n1 s0 k = k) ∧ Mk0 wb wr) (fun d _ _ => 8 - (intOf d).toNat)
  case atStart => exact ⟨0, by omega, rfl, rfl, rfl, Mk.refl _ _ _⟩
  case round =>
    obtain ⟨k, hk, rfl, rfl, hD, hM⟩ := hrel
    replace k0 := hM.cellAt k0
    replace k1 := hM.cellAt k1
    have hM' := M2.trans hM
    obtain ⟨X, hX⟩ : ∃ X, Hid (X = lvU zl n1 s0 k) := ⟨_, Lib.hid rfl⟩
    rw [← hX.out]
    cases h0 : (X == 0)
    · have h0' : (X != 0) = true := by simp only [bne, h0]; rfl
      by_cases hlt : k < 8
      · have q1 : decide ((k : Int) < 8) = true := decide_eq_true (by omega)
        have HD := Lib.hid (dpU_go hD.out (by rw [← hX.out]; simpa using h0))
        have HX := Lib.hid (show lvU zl n1 s0 (k + 1) = uS zl n1 3 X by rw [lvU, hX.out])
        clear h0
        go_wp2_with fail
        refine (specElements X _).mono ?_
        rintro e w3 ⟨A, N, C, rfl, hcA, oA, b3⟩
        have m3 := Mk.of_below b3
        replace k0 := m3.cellAt k0
        replace k1 := m3.cellAt k1
        have N3 := hM.trans m3
        have M3 := hM'.trans m3
        have hN := oA.1
        have hN16 : N ≤ 16 := by have := elN_len X 16; omega
        have HH := Lib.hid oA.has
        have HN := Lib.hid hN
        clear oA hN b3 m3 hcA hM hM'
        go_wp2_with fail
        go_loopw [7, 9] (fun v i wi => ∃ j : Nat, j ≤ N ∧ i = .int .i64 j ∧ v = .int .i64 (naL zl n1 3 0 ((elN X 16).take j)) ∧ Mk0 w3 wi) (fun _ i _ => N - (intOf i).toNat)
        case atStart => exact ⟨0, Nat.zero_le _, rfl, rfl, Mk.refl _ _ _⟩
        case round =>
          obtain ⟨j, hj, rfl, rfl, hM⟩ := hrel
          replace k0 := hM.cellAt k0
          replace k1 := hM.cellAt k1
          have hM' := M3.trans hM
          by_cases hlj : j < N
          · have hH2 := HH.out.mk2 hM
            obtain ⟨b, off, x, rfl, hb, hx, ci⟩ := hH2.at_ hlj
            clear hH2
            have i1 : (0 : Int) ≤ (j : Int) := by omega
            have i2 : (j : Int) < (N : Int) := by omega
            have HE := Lib.hid (show naL zl n1 3 0 ((elN X 16).take (j + 1)) = uniV (naL zl n1 3 0 ((elN X 16).take j)) (nbS zl n1 x 3) by rw [naL_take _ _ _ _ _ (by rw [HN.out]; exact hlj), ← hx.out])
            obtain ⟨Y, hY⟩ : ∃ Y, Hid (Y = naL zl n1 3 0 ((elN X 16).take j)) := ⟨_, Lib.hid rfl⟩
            rw [← hY.out] at HE ⊢
            have e1 : ∀ w', Mk0 wr w' → HasLink w' B a1 n1 zl := fun w' m => hl.mk (hM'.trans m) hB (.inr (Nat.le_refl _))
            have e2 : ∀ w', Mk0 wr w' → B ≤ w'.heap.size := fun w' m => Nat.le_trans hB (hM'.trans m).size
            go_wp2_with fail
            go_region_held3 (fun w' => Mk0 wr w' ∧ w'.cell? ⟨w.heap.size, 0, none⟩ = some (.slice a0 n0 c0) ∧ w'.cell? ⟨w.heap.size, 1, none⟩ = some (.slice a1 n1 c1) ∧ w'.cell? ⟨b, off + j, none⟩ = some (.int .i64 x)) (first | exact ⟨Mk.drew1 _, k0, k1, ci⟩ | (obtain ⟨s0, s1, s2, s3⟩ := ‹Mk0 wr _ ∧ _›; exact ⟨s0.trans mm, mm.cellAt s1, mm.cellAt s2, mm.cellAt s3⟩)) (first | (go_at_call 27; (with_reducible refine (specParents a0 a1 n0 c0 n1 c1 B zl x _ (e1 _ (‹Mk0 wr _ ∧ _›).1) (e2 _ (‹Mk0 wr _ ∧ _›).1) hn1).mono ?_); rintro e wc ⟨Ac, Nc, Cc, rfl, hcc, oc, bb⟩; have mm := Mk.of_below bb; have hNc : Nc ≤ 16 := (by have h1 := oc.1; have h2 := elN_len (nbS zl n1 x 3) 16; omega)) | (go_at_call 71; refine (specMakeSet Ac Nc Cc wc.heap.size _ _ oc.has (by omega)).mono ?_; rintro e wm ⟨he, rfl⟩; have hms : e = .returned (.int .i64 (nbS zl n1 x 3)) := he.trans (retI (by rw [← oc.1, msN_elN (nbS_VS _ _ _ _)])); clear he; subst hms; have mm := Mk.refl 0 0 wc) | (go_at_call 79; refine (specUni _ _ _).mono ?_; rintro e wu ⟨rfl, rfl⟩; have mm := Mk.refl 0 0 wc))
            obtain ⟨mE, k0, k1, ci⟩ := ‹Mk0 wr _ ∧ _›
            refine ‹∀ (a : Act) (w : World), _ → _› _ _ ?_
            go_wp2_with fail
            go_roundw
            case rel => exact ⟨j + 1, by omega, by go_num, congrArg (Value.int .i64) HE.out.symm, hM.trans mE⟩
            case measure => simp [intOf]; omega
          · obtain rfl : j = N := by omega
            have HE := Lib.hid (show naL zl n1 3 0 ((elN X 16).take j) = lvU zl n1 s0 (k + 1) by rw [HX.out, List.take_of_length_le (by rw [HN.out]; exact Nat.le_refl _)]; rfl)
            go_wp2_with fail
            go_roundw
            case rel => exact ⟨k + 1, by omega, by go_num, congrArg (Value.int .i64) HE.out, HD, N3.trans hM⟩
            case measure => simp [intOf]; omega
      · have q1 : decide ((k : Int) < 8) = false := decide_eq_false (by omega)
        obtain rfl : k = 8 := by omega
        go_wp2_with fail
        go_ret
        exact ⟨retI (by rw [← hs0.out, hD.out]), hM'⟩
    · have h0' : (X != 0) = false := by simp only [bne, h0]; rfl
      have HE := Lib.hid (dpU_stop hD.out (by rw [← hX.out]; simpa using h0) 8 hk)
      clear h0
      go_wp2_with fail
      go_ret
      exact ⟨retI (by rw [← hs0.out, HE.out]), hM'⟩

end Go.Proofs.Ytjlglppknemffaa
