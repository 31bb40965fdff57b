
/- CoreComponent of both sides. -/
import Derived.Test.YtjlglppknemffaaRchS
import Derived.Test.YtjlglppknemffaaCrq
import Derived.Deep.RegionHeld3
namespace Go.Proofs.Ytjlglppknemffaa
open Go.ChangeShapes Go.WideShapes Go.ChangeAt Go.RowKit
set_option linter.unusedVariables false
theorem pS_zero (zl : List TLink) (n1 : Nat) (kd : Int) : pS zl n1 kd 0 = 0 := by
  refine set_ext (pS_VS VS_zero) VS_zero fun j a b => ?_
  rw [pS_has VS_zero a b, uS_has _ _ _ _ a b, hasB_zero, Bool.false_or, List.any_eq_false]
  intro x hx
  have := (elN_in hx).2.2
  rw [hasB_zero] at this
  cases this
theorem itP_zero (zl : List TLink) (n1 : Nat) (kd : Int) : ∀ k, itP zl n1 kd 0 k = 0
  | 0 => rfl
  | k + 1 => by rw [itP, itP_zero zl n1 kd k, pS_zero]
theorem addV_out {r : Int} (h : ¬ (0 ≤ r ∧ r ≤ 15)) : addV 0 r = 0 := by
  unfold addV
  rw [if_neg]
  rintro ⟨_, _, h1, h2⟩
  exact h ⟨h1, h2⟩
/-- The core ASes reached from r over core links, and r. -/
def ccV (zs : List TAS) (n0 : Nat) (zl : List TLink) (n1 : Nat) (r : Int) : Int := if crB zs n0 r then itP zl n1 1 (addV 0 r) 9 else 0
theorem specRealmB (a0 a1 : Option Addr) (n0 c0 n1 c1 : Nat) (r : Int) (w : World) (hn : n0 ≤ 1048576) :
    Calls Try.prog 75 #[.agg #[.slice a0 n0 c0, .slice a1 n1 c1], .int .i64 r] w fun e w' => e = .returned (.bool (isAsB n0 r)) ∧ Mk0 w w' := by
  by_cases hr : 0 ≤ r ∧ r < (n0 : Int)
  · rw [show isAsB n0 r = true from decide_eq_true hr]; exact specRlIn a0 a1 n0 c0 n1 c1 r w hn hr.1 hr.2
  · rw [show isAsB n0 r = false from decide_eq_false hr]; exact specRlOut a0 a1 n0 c0 n1 c1 r w hn (by omega)
theorem specRealmIs (c : Bool) (a0 a1 : Option Addr) (n0 c0 n1 c1 : Nat) (r : Int) (hc : isAsB n0 r = c) (w : World) (hn : n0 ≤ 1048576) :
    Calls Try.prog 75 #[.agg #[.slice a0 n0 c0, .slice a1 n1 c1], .int .i64 r] w fun e w' => e = .returned (.bool c) ∧ Mk0 w w' := hc ▸ specRealmB a0 a1 n0 c0 n1 c1 r w hn
theorem implCoreIs (c : Bool) (a0 a1 : Option Addr) (n0 c0 n1 c1 B : Nat) (zs : List TAS) (r : Int) (hc : crB zs n0 r = c) (w : World) (h : HasAS w B a0 n0 zs) (hB : B ≤ w.heap.size) (hn : n0 ≤ 1048576) :
    Calls Try.prog 78 #[.agg #[.slice a0 n0 c0, .slice a1 n1 c1], .int .i64 r] w fun e w' => e = .returned (.bool c) ∧ Mk0 w w' := hc ▸ implIsCr a0 a1 n0 c0 n1 c1 B zs r w h hB hn
theorem specAddM (s i : Int) (w : World) : Calls Try.prog 74 #[.int .i64 s, .int .i64 i] w fun e w' => e = .returned (.int .i64 (addV s i)) ∧ Mk0 w w' :=
  (specAddElement s i w).mono fun e w' ⟨p, q⟩ => ⟨p, q ▸ Mk.refl 0 0 w⟩
set_option maxRecDepth 100000 in
set_option maxHeartbeats 4000000 in
theorem implFits (r : Int) (w : World) :
    Calls Try.prog 81 #[.int .i64 r] w fun e w' => e = .returned (.bool (rgB r 0 15)) ∧ w = w' := by
  go_enter Try.func81, Try.ntmps81
  go_wp2_with fail
  refine (implRg _ _ _ _).mono ?_
  rintro e w' ⟨rfl, rfl⟩
  go_wp2_with fail
  go_ret
  exact ⟨rfl, rfl⟩

set_option maxRecDepth 100000 in
set_option maxHeartbeats 4000000 in
theorem implCC (a0 a1 : Option Addr) (n0 c0 n1 c1 B : Nat) (zs : List TAS) (zl : List TLink) (r : Int) (w : World) (h : HasAS w B a0 n0 zs) (hl : HasLink w B a1 n1 zl) (hB : B ≤ w.heap.size) (hn0 : n0 ≤ 1048576) (hn1 : n1 ≤ 1048576) :
    Calls Try.prog 40 #[.agg #[.slice a0 n0 c0, .slice a1 n1 c1], .int .i64 r] w fun e w' => e = .returned (.int .i64 (ccV zs n0 zl n1 r)) ∧ Mk0 w w' := by
  have HC : ∀ c, crB zs n0 r = c → Hid (crB zs n0 r = c) := fun _ h => Lib.hid h
  cases hcr : crB zs n0 r
  · have HV := Lib.hid (show ccV zs n0 zl n1 r = 0 by unfold ccV; rw [hcr]; rfl)
    have HCR := Lib.hid hcr
    clear hcr HC
    have M0 := Mk.alloc w (Obj.cells #[Value.slice a0 n0 c0, Value.slice a1 n1 c1] 31)
    have k0 : (w.alloc (Obj.cells #[Value.slice a0 n0 c0, Value.slice a1 n1 c1] 31)).cell? ⟨w.heap.size, 0, none⟩ = some (.slice a0 n0 c0) := by simp [go_sem]
    have k1 : (w.alloc (Obj.cells #[Value.slice a0 n0 c0, Value.slice a1 n1 c1] 31)).cell? ⟨w.heap.size, 1, none⟩ = some (.slice a1 n1 c1) := by simp [go_sem]
    go_enter Try.func40, Try.ntmps40
    go_wp2_with fail
    refine (implCoreIs false a0 a1 n0 c0 n1 c1 B zs r HCR.out _ (h.mk M0 hB (.inr (Nat.le_refl _))) (Nat.le_trans hB M0.size) hn0).mono ?_
    rintro e w2 ⟨rfl, m2⟩
    go_wp2_with fail
    go_ret
    exact ⟨retI HV.out.symm, M0.trans m2⟩
  · have HCR := Lib.hid hcr
    have HV := Lib.hid (show ccV zs n0 zl n1 r = itP zl n1 1 (addV 0 r) 9 by unfold ccV; rw [hcr]; rfl)
    clear hcr HC
    cases hf : rgB r 0 15
    · have HF := Lib.hid hf
      have HX := Lib.hid (show itP zl n1 1 (addV 0 r) 9 = 0 by rw [addV_out (of_decide_eq_false hf), itP_zero])
      clear hf
      have M0 := Mk.alloc w (Obj.cells #[Value.slice a0 n0 c0, Value.slice a1 n1 c1] 31)
      have k0 : (w.alloc (Obj.cells #[Value.slice a0 n0 c0, Value.slice a1 n1 c1] 31)).cell? ⟨w.heap.size, 0, none⟩ = some (.slice a0 n0 c0) := by simp [go_sem]
      have k1 : (w.alloc (Obj.cells #[Value.slice a0 n0 c0, Value.slice a1 n1 c1] 31)).cell? ⟨w.heap.size, 1, none⟩ = some (.slice a1 n1 c1) := by simp [go_sem]
      go_enter Try.func40, Try.ntmps40
      go_wp2_with fail
      refine (implCoreIs true a0 a1 n0 c0 n1 c1 B zs r HCR.out _ (h.mk M0 hB (.inr (Nat.le_refl _))) (Nat.le_trans hB M0.size) hn0).mono ?_
      rintro e w2 ⟨rfl, m2⟩
      replace k0 := m2.cellAt k0
      replace k1 := m2.cellAt k1
      have M2 := M0.trans m2
      go_wp2_with fail
      refine (implFits r _).mono ?_
      rintro e w' ⟨he, rfl⟩
      rw [HF.out] at he
      subst he
      go_wp2_with fail
      go_ret
      exact ⟨retI (by rw [HV.out, HX.out]), M2⟩
    · have HF := Lib.hid hf
      have hq := of_decide_eq_true hf
      have HX := Lib.hid (itP_from (zl := zl) (n1 := n1) (kd := 1) hq.1 hq.2 8)
      clear hf hq
      have M0 := Mk.alloc w (Obj.cells #[Value.slice a0 n0 c0, Value.slice a1 n1 c1] 31)
      have k0 : (w.alloc (Obj.cells #[Value.slice a0 n0 c0, Value.slice a1 n1 c1] 31)).cell? ⟨w.heap.size, 0, none⟩ = some (.slice a0 n0 c0) := by simp [go_sem]
      have k1 : (w.alloc (Obj.cells #[Value.slice a0 n0 c0, Value.slice a1 n1 c1] 31)).cell? ⟨w.heap.size, 1, none⟩ = some (.slice a1 n1 c1) := by simp [go_sem]
      go_enter Try.func40, Try.ntmps40
      go_wp2_with fail
      refine (implCoreIs true a0 a1 n0 c0 n1 c1 B zs r HCR.out _ (h.mk M0 hB (.inr (Nat.le_refl _))) (Nat.le_trans hB M0.size) hn0).mono ?_
      rintro e w2 ⟨rfl, m2⟩
      replace k0 := m2.cellAt k0
      replace k1 := m2.cellAt k1
      have M2 := M0.trans m2
      go_wp2_with fail
      refine (implFits r _).mono ?_
      rintro e w' ⟨he, rfl⟩
      rw [HF.out] at he
      subst he
      go_wp2_with fail
      refine (implReached9 a0 a1 n0 c0 n1 c1 B zl r 1 _ (hl.mk M2 hB (.inr (Nat.le_refl _))) (Nat.le_trans hB M2.size) hn1).mono ?_
      rintro e w3 ⟨rfl, m3⟩
      go_wp2_with fail
      refine (implAddElement _ _ _).mono ?_
      rintro e w' ⟨rfl, rfl⟩
      go_wp2_with fail
      go_ret
      exact ⟨retI (by rw [HV.out]; exact HX.out.symm), M2.trans m3⟩

set_option maxRecDepth 100000 in
set_option maxHeartbeats 4000000 in
theorem specCC (a0 a1 : Option Addr) (n0 c0 n1 c1 B : Nat) (zs : List TAS) (zl : List TLink) (r : Int) (w : World) (h : HasAS w B a0 n0 zs) (hl : HasLink w B a1 n1 zl) (hB : B ≤ w.heap.size) (hn0 : n0 ≤ 1048576) (hn1 : n1 ≤ 1048576) :
    Calls Try.prog 39 #[.agg #[.slice a0 n0 c0, .slice a1 n1 c1], .int .i64 r] w fun e w' => e = .returned (.int .i64 (ccV zs n0 zl n1 r)) ∧ Mk0 w w' := by
  cases hr : isAsB n0 r
  · have HV := Lib.hid (show ccV zs n0 zl n1 r = 0 by unfold ccV crB; rw [hr]; rfl)
    have HR := Lib.hid hr
    clear hr
    have M0 := Mk.alloc w (Obj.cells #[Value.slice a0 n0 c0, Value.slice a1 n1 c1] 31)
    have k0 : (w.alloc (Obj.cells #[Value.slice a0 n0 c0, Value.slice a1 n1 c1] 31)).cell? ⟨w.heap.size, 0, none⟩ = some (.slice a0 n0 c0) := by simp [go_sem]
    have k1 : (w.alloc (Obj.cells #[Value.slice a0 n0 c0, Value.slice a1 n1 c1] 31)).cell? ⟨w.heap.size, 1, none⟩ = some (.slice a1 n1 c1) := by simp [go_sem]
    go_enter Try.func39, Try.ntmps39
    go_wp2_with fail
    refine (specRealmIs false a0 a1 n0 c0 n1 c1 r HR.out _ hn0).mono ?_
    rintro e w2 ⟨rfl, m2⟩
    go_wp2_with fail
    go_ret
    exact ⟨retI HV.out.symm, M0.trans m2⟩
  · have hq := of_decide_eq_true (show decide (0 ≤ r ∧ r < (n0 : Int)) = true from hr)
    obtain ⟨q, hqr⟩ : ∃ q : Nat, (q : Int) = r := ⟨r.toNat, by omega⟩
    subst hqr
    have hqn : q < n0 := by omega
    have HR := Lib.hid hr
    clear hr
    obtain ⟨bq, oq, y, rfl, hbq, hy, d0, d1, d2⟩ := HasAS.at _ _ _ _ _ _ (h.mk (Mk.alloc w (Obj.cells #[Value.slice a0 n0 c0, Value.slice a1 n1 c1] 31)) hB (.inr (Nat.le_refl _))) hqn
    have HY := Lib.hid (show crB zs n0 (q : Int) = y.core by unfold crB; rw [HR.out, hy.out]; simp)
    have i1 : (0 : Int) ≤ (q : Int) := by omega
    have i2 : (q : Int) < (n0 : Int) := by omega
    clear d0 d2 hq
    obtain ⟨cb, hcb⟩ : ∃ cb, cb = y.core := ⟨_, rfl⟩
    rw [← hcb] at d1
    have HY2 := Lib.hid (HY.out.trans hcb.symm)
    clear hcb HY
    cases cb
    · have HV := Lib.hid (show ccV zs n0 zl n1 (q : Int) = 0 by unfold ccV; rw [HY2.out]; rfl)
      have M0 := Mk.alloc w (Obj.cells #[Value.slice (some ⟨bq, oq, none⟩) n0 c0, Value.slice a1 n1 c1] 31)
      have k0 : (w.alloc (Obj.cells #[Value.slice (some ⟨bq, oq, none⟩) n0 c0, Value.slice a1 n1 c1] 31)).cell? ⟨w.heap.size, 0, none⟩ = some (.slice (some ⟨bq, oq, none⟩) n0 c0) := by simp [go_sem]
      have k1 : (w.alloc (Obj.cells #[Value.slice (some ⟨bq, oq, none⟩) n0 c0, Value.slice a1 n1 c1] 31)).cell? ⟨w.heap.size, 1, none⟩ = some (.slice a1 n1 c1) := by simp [go_sem]
      go_enter Try.func39, Try.ntmps39
      go_wp2_with fail
      refine (specRealmIs true (some ⟨bq, oq, none⟩) a1 n0 c0 n1 c1 (q : Int) HR.out _ hn0).mono ?_
      rintro e w2 ⟨rfl, m2⟩
      replace k0 := m2.cellAt k0
      replace k1 := m2.cellAt k1
      replace d1 := m2.cellAt d1
      have M2 := M0.trans m2
      go_wp2_with fail
      go_ret
      exact ⟨retI HV.out.symm, M2⟩
    · have HV := Lib.hid (show ccV zs n0 zl n1 (q : Int) = itP zl n1 1 (addV 0 (q : Int)) 9 by unfold ccV; rw [HY2.out]; rfl)
      have M0 := Mk.alloc w (Obj.cells #[Value.slice (some ⟨bq, oq, none⟩) n0 c0, Value.slice a1 n1 c1] 31)
      have k0 : (w.alloc (Obj.cells #[Value.slice (some ⟨bq, oq, none⟩) n0 c0, Value.slice a1 n1 c1] 31)).cell? ⟨w.heap.size, 0, none⟩ = some (.slice (some ⟨bq, oq, none⟩) n0 c0) := by simp [go_sem]
      have k1 : (w.alloc (Obj.cells #[Value.slice (some ⟨bq, oq, none⟩) n0 c0, Value.slice a1 n1 c1] 31)).cell? ⟨w.heap.size, 1, none⟩ = some (.slice a1 n1 c1) := by simp [go_sem]
      go_enter Try.func39, Try.ntmps39
      go_wp2_with fail
      refine (specRealmIs true (some ⟨bq, oq, none⟩) a1 n0 c0 n1 c1 (q : Int) HR.out _ hn0).mono ?_
      rintro e w2 ⟨rfl, m2⟩
      replace k0 := m2.cellAt k0
      replace k1 := m2.cellAt k1
      replace d1 := m2.cellAt d1
      have M2 := M0.trans m2
      have e1 : ∀ w', Mk0 w2 w' → HasLink w' B a1 n1 zl := fun w' m => hl.mk (M2.trans m) hB (.inr (Nat.le_refl _))
      have e2 : ∀ w', Mk0 w2 w' → B ≤ w'.heap.size := fun w' m => Nat.le_trans hB (M2.trans m).size
      go_wp2_with fail
      clear d1
      go_region_held3 (fun w' => Mk0 w2 w' ∧ w'.cell? ⟨w.heap.size, 0, none⟩ = some (.slice (some ⟨bq, oq, none⟩) n0 c0) ∧ w'.cell? ⟨w.heap.size, 1, none⟩ = some (.slice a1 n1 c1)) (first | exact ⟨Mk.drew1 _, k0, k1⟩ | (obtain ⟨s0, s1, s2⟩ := ‹Mk0 w2 _ ∧ _›; exact ⟨s0.trans mm, mm.cellAt s1, mm.cellAt s2⟩)) (first | (go_at_call 74; refine (specAddM _ _ _).mono ?_; rintro e wb ⟨rfl, mm⟩) | (go_at_call 70; refine (specReach (some ⟨bq, oq, none⟩) a1 n0 c0 n1 c1 B zl (addV 0 (q : Int)) 1 _ (e1 _ (‹Mk0 w2 _ ∧ _›).1) (e2 _ (‹Mk0 w2 _ ∧ _›).1) hn1 (addV_any VS_zero _).1).mono ?_; rintro e wu ⟨rfl, mm⟩))
      obtain ⟨mE, k0, k1⟩ := ‹Mk0 w2 _ ∧ _›
      refine ‹∀ (a : Act) (w : World), _ → _› _ _ ?_
      go_wp2_with fail
      go_ret
      exact ⟨retI HV.out.symm, M2.trans mE⟩

end Go.Proofs.Ytjlglppknemffaa
