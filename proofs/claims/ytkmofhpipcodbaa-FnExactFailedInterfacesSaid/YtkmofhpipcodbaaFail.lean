
/- FailedInterfaces of both sides. -/
import Derived.Test.YtkmofhpipcodbaaIfsI
import Derived.Test.YtkmofhpipcodbaaIfsS
import Derived.Test.YtkmofhpipcodbaaLkIdx
import Derived.Test.YtkmofhpipcodbaaLkImpl
import Derived.Test.YtkmofhpipcodbaaContI
import Derived.Test.YtkmofhpipcodbaaRealm
import Derived.Test.YtkmofhpipcodbaaSetOps
import Derived.Test.YtkmofhpipcodbaaIntR
import Derived.Test.YtkmofhpipcodbaaWk
import Derived.Test.YtkmofhpipcodbaaRet
namespace Go.Proofs.Ytkmofhpipcodbaa
open Go.ChangeShapes Go.WideShapes Go.ChangeAt Go.RowKit
set_option linter.unusedVariables false
def failUp (zl : List TLink) (n1 : Nat) (F : List Int) (NF : Nat) (r : Int) (xs : List Int) : Nat → Int
  | 0 => 0
  | k + 1 => if inUp (nthI F) (lkIx zl r (xs.getD k 0) n1) NF then addV (failUp zl n1 F NF r xs k) (xs.getD k 0) else failUp zl n1 F NF r xs k
set_option maxRecDepth 100000 in
set_option maxHeartbeats 4000000 in
theorem specFail (a0 a1 : Option Addr) (n0 c0 n1 c1 B : Nat) (zl : List TLink) (af : Option Addr) (NF cf Bf : Nat) (F : List Int) (r : Int) (w : World) (hl : HasLink w B a1 n1 zl) (hB : B ≤ w.heap.size) (hn1 : n1 ≤ 1048576) (hf : HasInt w Bf af NF F) (hBf : Bf ≤ w.heap.size) (hnf : NF ≤ 1048576) :
    Calls Try.prog 15 #[.agg #[.slice a0 n0 c0, .slice a1 n1 c1], .slice af NF cf, .int .i64 r] w fun e w' => e = .returned (.int .i64 (failUp zl n1 F NF r (uniqL (ifUp zl r n1)) (uniqL (ifUp zl r n1)).length)) ∧ Mk0 w w' := by
  have M0 := Mk.alloc w (Obj.cells #[Value.slice a0 n0 c0, Value.slice a1 n1 c1] 43)
  have t0 : (w.alloc (Obj.cells #[Value.slice a0 n0 c0, Value.slice a1 n1 c1] 43)).cell? ⟨w.heap.size, 0, none⟩ = some (.slice a0 n0 c0) := by simp [go_sem]
  have t1 : (w.alloc (Obj.cells #[Value.slice a0 n0 c0, Value.slice a1 n1 c1] 43)).cell? ⟨w.heap.size, 1, none⟩ = some (.slice a1 n1 c1) := by simp [go_sem]
  have hu1 := uniqL_len (ifUp zl r n1)
  have hu2 := ifUp_le zl r n1
  have HU := Lib.hid (show (uniqL (ifUp zl r n1)).length ≤ 2097152 by omega)
  clear hu1 hu2
  go_enter Try.func15, Try.ntmps15
  go_wp2_with fail
  refine (specIfs a0 a1 n0 c0 n1 c1 B zl r _ (hl.mk M0 hB (.inr (Nat.le_refl _))) (Nat.le_trans hB M0.size) hn1).mono ?_
  rintro e w1 hr
  obtain ⟨A, N, cc, rfl, hcc, o1, b1⟩ := hr
  have m1 := Mk.of_below b1
  have M1 := M0.trans m1
  replace t0 := m1.cellAt t0
  replace t1 := m1.cellAt t1
  have hN : N ≤ 2097152 := by rw [← o1.1]; exact HU.out
  have i3 : (N : Int) ≤ 2097152 := by omega
  have ho := o1.has
  have HN := Lib.hid o1.1
  obtain ⟨xs, hxs⟩ : ∃ xs, Hid (xs = uniqL (ifUp zl r n1)) := ⟨_, Lib.hid rfl⟩
  rw [← hxs.out] at ho
  clear o1 b1
  have HT := Lib.hid (fun (w' : World) (m : Mk0 w1 w') => And.intro (m.cellAt t0) (m.cellAt t1))
  go_wp2_with fail
  clear t0 t1
  go_loopw [7, 9] (fun q i wr => ∃ k : Nat, k ≤ N ∧ i = .int .i64 k ∧ q = .int .i64 (failUp zl n1 F NF r xs k) ∧ Mk0 w1 wr) (fun _ i _ => N - (intOf i).toNat)
  case atStart => exact ⟨0, Nat.zero_le _, rfl, rfl, Mk.refl _ _ _⟩
  case round =>
    obtain ⟨k, hk, rfl, rfl, hM⟩ := hrel
    obtain ⟨t0, t1⟩ := HT.out _ hM
    have M1R := M1.trans hM
    by_cases hlt : k < N
    · obtain ⟨b, off, z, rfl, hb, hz, hc⟩ := (ho.next hM.below0).at_ hlt
      have i1 : (0 : Int) ≤ (k : Int) := by omega
      have i2 : (k : Int) < (N : Int) := by omega
      have hlr := hl.mk M1R hB (.inr (Nat.le_refl _))
      have hfr := hasR_int.1 (hf.mk M1R hBf (.inr (Nat.le_refl _)))
      have hBr := Nat.le_trans hB M1R.size
      have hBfr := Nat.le_trans hBf M1R.size
      obtain ⟨Q, hQ⟩ : ∃ Q, Hid (Q = failUp zl n1 F NF r xs k) := ⟨_, Lib.hid rfl⟩
      obtain ⟨J, hJ⟩ : ∃ J, Hid (J = lkIx zl r z n1) := ⟨_, Lib.hid rfl⟩
      rw [← hQ.out]
      cases he : inUp (nthI F) J NF
      · have HH := Lib.hid he
        have HE := Lib.hid (show failUp zl n1 F NF r xs (k + 1) = Q by rw [failUp, ← hz.out, ← hJ.out, he, hQ.out]; rfl)
        clear he
        go_wp2_with fail
        refine wp_region_wk (fun w' => Mk0 wr w' ∧ w'.cell? ⟨w.heap.size, 0, none⟩ = some (.slice a0 n0 c0) ∧ w'.cell? ⟨w.heap.size, 1, none⟩ = some (.slice a1 n1 c1) ∧ w'.cell? ⟨b, off + k, none⟩ = some (.int .i64 z)) (by kernel_rfl) (by kernel_rfl) (⟨Mk.drew1 _, t0, t1, hc⟩) ?_
        change Wk _ _ _ _ 9 0 _
        first | (refine Wk.skip (m := 8) (k := 0) rfl (by rfl) ?_) | (refine Wk.step (m := 8) (k := 0) (v := _) rfl (by rfl) (fun wv hS => by obtain ⟨s0, s1, s2, s3⟩ := hS; go_simp; try with_reducible rfl) ?_)
        try simp only [Act.put, List.getElem_toArray, List.getElem_cons_zero, List.setIfInBounds_toArray, List.set_cons_zero, List.set_cons_succ]
        first | (refine Wk.skip (m := 7) (k := 1) rfl (by rfl) ?_) | (refine Wk.step (m := 7) (k := 1) (v := _) rfl (by rfl) (fun wv hS => by obtain ⟨s0, s1, s2, s3⟩ := hS; go_simp; try with_reducible rfl) ?_)
        try simp only [Act.put, List.getElem_toArray, List.getElem_cons_succ, List.getElem_cons_zero, List.setIfInBounds_toArray, List.set_cons_zero, List.set_cons_succ]
        first | (refine Wk.skip (m := 6) (k := 2) rfl (by rfl) ?_) | (refine Wk.step (m := 6) (k := 2) (v := _) rfl (by rfl) (fun wv hS => by obtain ⟨s0, s1, s2, s3⟩ := hS; go_simp; try with_reducible rfl) ?_)
        try simp only [Act.put, List.getElem_toArray, List.getElem_cons_succ, List.getElem_cons_zero, List.setIfInBounds_toArray, List.set_cons_zero, List.set_cons_succ]
        first | (refine Wk.skip (m := 5) (k := 3) rfl (by rfl) ?_) | (refine Wk.step (m := 5) (k := 3) (v := _) rfl (by rfl) (fun wv hS => by obtain ⟨s0, s1, s2, s3⟩ := hS; go_simp; try with_reducible rfl) ?_)
        try simp only [Act.put, List.getElem_toArray, List.getElem_cons_succ, List.getElem_cons_zero, List.setIfInBounds_toArray, List.set_cons_zero, List.set_cons_succ]
        first | (refine Wk.skip (m := 4) (k := 4) rfl (by rfl) ?_) | (refine Wk.step (m := 4) (k := 4) (v := _) rfl (by rfl) (fun wv hS => by obtain ⟨s0, s1, s2, s3⟩ := hS; go_simp; try with_reducible rfl) ?_)
        try simp only [Act.put, List.getElem_toArray, List.getElem_cons_succ, List.getElem_cons_zero, List.setIfInBounds_toArray, List.set_cons_zero, List.set_cons_succ]
        first | (refine Wk.skip (m := 3) (k := 5) rfl (by rfl) ?_) | (refine Wk.step (m := 3) (k := 5) (v := _) rfl (by rfl) (fun wv hS => by obtain ⟨s0, s1, s2, s3⟩ := hS; go_simp; try with_reducible rfl) ?_)
        try simp only [Act.put, List.getElem_toArray, List.getElem_cons_succ, List.getElem_cons_zero, List.setIfInBounds_toArray, List.set_cons_zero, List.set_cons_succ]
        first | (refine Wk.skip (m := 2) (k := 6) rfl (by rfl) ?_) | (refine Wk.step (m := 2) (k := 6) (v := _) rfl (by rfl) (fun wv hS => by obtain ⟨s0, s1, s2, s3⟩ := hS; go_simp; try with_reducible rfl) ?_)
        try simp only [Act.put, List.getElem_toArray, List.getElem_cons_succ, List.getElem_cons_zero, List.setIfInBounds_toArray, List.set_cons_zero, List.set_cons_succ]
        refine Wk.call (m := 1) (k := 7) (v := .int .i64 J) _ _ rfl (by rfl) (fun wv hS => by obtain ⟨s0, s1, s2, s3⟩ := hS; go_simp; first | done | exact ⟨rfl, rfl⟩ | with_reducible rfl) (fun wv hS => ?_) ?_; · obtain ⟨s0, s1, s2, s3⟩ := hS; refine (specLinkIx a0 a1 n0 c0 n1 c1 B zl r z wv (hlr.mk s0 hBr (.inr (Nat.le_refl _))) (Nat.le_trans hBr s0.size) hn1).mono ?_; rintro e w' ⟨he, mm⟩; exact ⟨by rw [he, hJ.out], s0.trans mm, mm.cellAt s1, mm.cellAt s2, mm.cellAt s3⟩
        try simp only [Act.put, List.getElem_toArray, List.getElem_cons_succ, List.getElem_cons_zero, List.setIfInBounds_toArray, List.set_cons_zero, List.set_cons_succ]
        refine Wk.call (m := 0) (k := 8) (v := .bool false) _ _ rfl (by rfl) (fun wv hS => by obtain ⟨s0, s1, s2, s3⟩ := hS; go_simp; first | done | exact ⟨rfl, rfl⟩ | with_reducible rfl) (fun wv hS => ?_) ?_; · obtain ⟨s0, s1, s2, s3⟩ := hS; refine (specHas9 J af NF cf _ F wv (hasR_int.1 (hf.mk (M1R.trans s0) hBf (.inr (Nat.le_refl _)))) (by omega)).mono ?_; rintro e w' ⟨he, rfl⟩; exact ⟨by rw [he]; exact congrArg (fun q => Ending.returned (.bool q)) HH.out, s0, s1, s2, s3⟩
        try simp only [Act.put, List.getElem_toArray, List.getElem_cons_succ, List.getElem_cons_zero, List.setIfInBounds_toArray, List.set_cons_zero, List.set_cons_succ]
        refine Wk.done fun wE hE => ?_
        clear t0 t1 hc
        obtain ⟨mE, t0, t1, hc⟩ := hE
        go_wp2_with fail
        go_roundw
        case rel => exact ⟨k + 1, by omega, by go_num, by rw [HE.out], hM.trans mE⟩
        case measure => simp [intOf]; omega
      · have HH := Lib.hid he
        have HE := Lib.hid (show failUp zl n1 F NF r xs (k + 1) = addV Q z by rw [failUp, ← hz.out, ← hJ.out, he, hQ.out]; rfl)
        clear he
        go_wp2_with fail
        refine wp_region_wk (fun w' => Mk0 wr w' ∧ w'.cell? ⟨w.heap.size, 0, none⟩ = some (.slice a0 n0 c0) ∧ w'.cell? ⟨w.heap.size, 1, none⟩ = some (.slice a1 n1 c1) ∧ w'.cell? ⟨b, off + k, none⟩ = some (.int .i64 z)) (by kernel_rfl) (by kernel_rfl) (⟨Mk.drew1 _, t0, t1, hc⟩) ?_
        change Wk _ _ _ _ 9 0 _
        first | (refine Wk.skip (m := 8) (k := 0) rfl (by rfl) ?_) | (refine Wk.step (m := 8) (k := 0) (v := _) rfl (by rfl) (fun wv hS => by obtain ⟨s0, s1, s2, s3⟩ := hS; go_simp; try with_reducible rfl) ?_)
        try simp only [Act.put, List.getElem_toArray, List.getElem_cons_zero, List.setIfInBounds_toArray, List.set_cons_zero, List.set_cons_succ]
        first | (refine Wk.skip (m := 7) (k := 1) rfl (by rfl) ?_) | (refine Wk.step (m := 7) (k := 1) (v := _) rfl (by rfl) (fun wv hS => by obtain ⟨s0, s1, s2, s3⟩ := hS; go_simp; try with_reducible rfl) ?_)
        try simp only [Act.put, List.getElem_toArray, List.getElem_cons_succ, List.getElem_cons_zero, List.setIfInBounds_toArray, List.set_cons_zero, List.set_cons_succ]
        first | (refine Wk.skip (m := 6) (k := 2) rfl (by rfl) ?_) | (refine Wk.step (m := 6) (k := 2) (v := _) rfl (by rfl) (fun wv hS => by obtain ⟨s0, s1, s2, s3⟩ := hS; go_simp; try with_reducible rfl) ?_)
        try simp only [Act.put, List.getElem_toArray, List.getElem_cons_succ, List.getElem_cons_zero, List.setIfInBounds_toArray, List.set_cons_zero, List.set_cons_succ]
        first | (refine Wk.skip (m := 5) (k := 3) rfl (by rfl) ?_) | (refine Wk.step (m := 5) (k := 3) (v := _) rfl (by rfl) (fun wv hS => by obtain ⟨s0, s1, s2, s3⟩ := hS; go_simp; try with_reducible rfl) ?_)
        try simp only [Act.put, List.getElem_toArray, List.getElem_cons_succ, List.getElem_cons_zero, List.setIfInBounds_toArray, List.set_cons_zero, List.set_cons_succ]
        first | (refine Wk.skip (m := 4) (k := 4) rfl (by rfl) ?_) | (refine Wk.step (m := 4) (k := 4) (v := _) rfl (by rfl) (fun wv hS => by obtain ⟨s0, s1, s2, s3⟩ := hS; go_simp; try with_reducible rfl) ?_)
        try simp only [Act.put, List.getElem_toArray, List.getElem_cons_succ, List.getElem_cons_zero, List.setIfInBounds_toArray, List.set_cons_zero, List.set_cons_succ]
        first | (refine Wk.skip (m := 3) (k := 5) rfl (by rfl) ?_) | (refine Wk.step (m := 3) (k := 5) (v := _) rfl (by rfl) (fun wv hS => by obtain ⟨s0, s1, s2, s3⟩ := hS; go_simp; try with_reducible rfl) ?_)
        try simp only [Act.put, List.getElem_toArray, List.getElem_cons_succ, List.getElem_cons_zero, List.setIfInBounds_toArray, List.set_cons_zero, List.set_cons_succ]
        first | (refine Wk.skip (m := 2) (k := 6) rfl (by rfl) ?_) | (refine Wk.step (m := 2) (k := 6) (v := _) rfl (by rfl) (fun wv hS => by obtain ⟨s0, s1, s2, s3⟩ := hS; go_simp; try with_reducible rfl) ?_)
        try simp only [Act.put, List.getElem_toArray, List.getElem_cons_succ, List.getElem_cons_zero, List.setIfInBounds_toArray, List.set_cons_zero, List.set_cons_succ]
        refine Wk.call (m := 1) (k := 7) (v := .int .i64 J) _ _ rfl (by rfl) (fun wv hS => by obtain ⟨s0, s1, s2, s3⟩ := hS; go_simp; first | done | exact ⟨rfl, rfl⟩ | with_reducible rfl) (fun wv hS => ?_) ?_; · obtain ⟨s0, s1, s2, s3⟩ := hS; refine (specLinkIx a0 a1 n0 c0 n1 c1 B zl r z wv (hlr.mk s0 hBr (.inr (Nat.le_refl _))) (Nat.le_trans hBr s0.size) hn1).mono ?_; rintro e w' ⟨he, mm⟩; exact ⟨by rw [he, hJ.out], s0.trans mm, mm.cellAt s1, mm.cellAt s2, mm.cellAt s3⟩
        try simp only [Act.put, List.getElem_toArray, List.getElem_cons_succ, List.getElem_cons_zero, List.setIfInBounds_toArray, List.set_cons_zero, List.set_cons_succ]
        refine Wk.call (m := 0) (k := 8) (v := .bool true) _ _ rfl (by rfl) (fun wv hS => by obtain ⟨s0, s1, s2, s3⟩ := hS; go_simp; first | done | exact ⟨rfl, rfl⟩ | with_reducible rfl) (fun wv hS => ?_) ?_; · obtain ⟨s0, s1, s2, s3⟩ := hS; refine (specHas9 J af NF cf _ F wv (hasR_int.1 (hf.mk (M1R.trans s0) hBf (.inr (Nat.le_refl _)))) (by omega)).mono ?_; rintro e w' ⟨he, rfl⟩; exact ⟨by rw [he]; exact congrArg (fun q => Ending.returned (.bool q)) HH.out, s0, s1, s2, s3⟩
        try simp only [Act.put, List.getElem_toArray, List.getElem_cons_succ, List.getElem_cons_zero, List.setIfInBounds_toArray, List.set_cons_zero, List.set_cons_succ]
        refine Wk.done fun wE hE => ?_
        clear t0 t1 hc
        obtain ⟨mE, t0, t1, hc⟩ := hE
        go_wp2_with fail
        refine (specAddElement Q z _).mono ?_
        rintro e w' ⟨rfl, rfl⟩
        go_wp2_with fail
        go_roundw
        case rel => exact ⟨k + 1, by omega, by go_num, by rw [HE.out], hM.trans mE⟩
        case measure => simp [intOf]; omega
    · obtain rfl : N = k := by omega
      go_wp2_with fail
      go_ret
      exact ⟨retI (by rw [hxs.out, HN.out]), M1R⟩

set_option maxRecDepth 100000 in
set_option maxHeartbeats 4000000 in
theorem implFail (a0 a1 : Option Addr) (n0 c0 n1 c1 B : Nat) (zl : List TLink) (af : Option Addr) (NF cf Bf : Nat) (F : List Int) (r : Int) (w : World) (hl : HasLink w B a1 n1 zl) (hB : B ≤ w.heap.size) (hn1 : n1 ≤ 1048576) (hf : HasInt w Bf af NF F) (hBf : Bf ≤ w.heap.size) (hnf : NF ≤ 1048576) :
    Calls Try.prog 18 #[.agg #[.slice a0 n0 c0, .slice a1 n1 c1], .slice af NF cf, .int .i64 r] w fun e w' => e = .returned (.int .i64 (failUp zl n1 F NF r (uniqL (ifUp zl r n1)) (uniqL (ifUp zl r n1)).length)) ∧ Mk0 w w' := by
  have M0 := Mk.alloc w (Obj.cells #[Value.slice a0 n0 c0, Value.slice a1 n1 c1] 43)
  have t0 : (w.alloc (Obj.cells #[Value.slice a0 n0 c0, Value.slice a1 n1 c1] 43)).cell? ⟨w.heap.size, 0, none⟩ = some (.slice a0 n0 c0) := by simp [go_sem]
  have t1 : (w.alloc (Obj.cells #[Value.slice a0 n0 c0, Value.slice a1 n1 c1] 43)).cell? ⟨w.heap.size, 1, none⟩ = some (.slice a1 n1 c1) := by simp [go_sem]
  have hu1 := uniqL_len (ifUp zl r n1)
  have hu2 := ifUp_le zl r n1
  have HU := Lib.hid (show (uniqL (ifUp zl r n1)).length ≤ 2097152 by omega)
  clear hu1 hu2
  go_enter Try.func18, Try.ntmps18
  go_wp2_with fail
  refine (implIfs a0 a1 n0 c0 n1 c1 B zl r _ (hl.mk M0 hB (.inr (Nat.le_refl _))) (Nat.le_trans hB M0.size) hn1).mono ?_
  rintro e w1 hr
  obtain ⟨A, N, cc, rfl, hcc, o1, b1⟩ := hr
  have m1 := Mk.of_below b1
  have M1 := M0.trans m1
  replace t0 := m1.cellAt t0
  replace t1 := m1.cellAt t1
  have hN : N ≤ 2097152 := by rw [← o1.1]; exact HU.out
  have i3 : (N : Int) ≤ 2097152 := by omega
  have ho := o1.has
  have HN := Lib.hid o1.1
  obtain ⟨xs, hxs⟩ : ∃ xs, Hid (xs = uniqL (ifUp zl r n1)) := ⟨_, Lib.hid rfl⟩
  rw [← hxs.out] at ho
  clear o1 b1
  have HT := Lib.hid (fun (w' : World) (m : Mk0 w1 w') => And.intro (m.cellAt t0) (m.cellAt t1))
  go_wp2_with fail
  clear t0 t1
  go_loopw [7, 14] (fun q i wr => ∃ k : Nat, k ≤ N ∧ i = .int .i64 k ∧ q = .int .i64 (failUp zl n1 F NF r xs k) ∧ Mk0 w1 wr) (fun _ i _ => N - (intOf i).toNat)
  case atStart => exact ⟨0, Nat.zero_le _, rfl, rfl, Mk.refl _ _ _⟩
  case round =>
    obtain ⟨k, hk, rfl, rfl, hM⟩ := hrel
    obtain ⟨t0, t1⟩ := HT.out _ hM
    have M1R := M1.trans hM
    by_cases hlt : k < N
    · obtain ⟨b, off, z, rfl, hb, hz, hc⟩ := (ho.next hM.below0).at_ hlt
      have i1 : (0 : Int) ≤ (k : Int) := by omega
      have i2 : (k : Int) < (N : Int) := by omega
      have hlr := hl.mk M1R hB (.inr (Nat.le_refl _))
      have hfr := hasR_int.1 (hf.mk M1R hBf (.inr (Nat.le_refl _)))
      have hBr := Nat.le_trans hB M1R.size
      have hBfr := Nat.le_trans hBf M1R.size
      obtain ⟨Q, hQ⟩ : ∃ Q, Hid (Q = failUp zl n1 F NF r xs k) := ⟨_, Lib.hid rfl⟩
      obtain ⟨J, hJ⟩ : ∃ J, Hid (J = lkIx zl r z n1) := ⟨_, Lib.hid rfl⟩
      rw [← hQ.out]
      cases he : inUp (nthI F) J NF
      · have HH := Lib.hid he
        have HE := Lib.hid (show failUp zl n1 F NF r xs (k + 1) = Q by rw [failUp, ← hz.out, ← hJ.out, he, hQ.out]; rfl)
        clear he
        go_wp2_with fail
        refine (implLinkIx a0 a1 n0 c0 n1 c1 B zl r z _ hlr hBr hn1).mono ?_
        rintro e w2 ⟨he, m2⟩
        rw [← hJ.out] at he
        subst he
        go_wp2_with fail
        refine (contI J af NF cf _ F _ (hasR_int.1 (hf.mk (M1R.trans m2) hBf (.inr (Nat.le_refl _)))) (by omega)).mono ?_
        rintro e w' ⟨he, rfl⟩
        rw [HH.out] at he
        subst he
        go_wp2_with fail
        go_roundw
        case rel => exact ⟨k + 1, by omega, by go_num, by rw [HE.out], hM.trans m2⟩
        case measure => simp [intOf]; omega
      · have HH := Lib.hid he
        have HE := Lib.hid (show failUp zl n1 F NF r xs (k + 1) = addV Q z by rw [failUp, ← hz.out, ← hJ.out, he, hQ.out]; rfl)
        clear he
        go_wp2_with fail
        refine (implLinkIx a0 a1 n0 c0 n1 c1 B zl r z _ hlr hBr hn1).mono ?_
        rintro e w2 ⟨he, m2⟩
        rw [← hJ.out] at he
        subst he
        go_wp2_with fail
        refine (contI J af NF cf _ F _ (hasR_int.1 (hf.mk (M1R.trans m2) hBf (.inr (Nat.le_refl _)))) (by omega)).mono ?_
        rintro e w' ⟨he, rfl⟩
        rw [HH.out] at he
        subst he
        go_wp2_with fail
        refine (implAddElement Q z _).mono ?_
        rintro e w' ⟨rfl, rfl⟩
        go_wp2_with fail
        go_roundw
        case rel => exact ⟨k + 1, by omega, by go_num, by rw [HE.out], hM.trans m2⟩
        case measure => simp [intOf]; omega
    · obtain rfl : N = k := by omega
      go_wp2_with fail
      go_ret
      exact ⟨retI (by rw [hxs.out, HN.out]), M1R⟩

end Go.Proofs.Ytkmofhpipcodbaa
