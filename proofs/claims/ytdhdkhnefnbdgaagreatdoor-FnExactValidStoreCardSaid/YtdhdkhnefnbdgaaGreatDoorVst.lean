
/- ValidStore of both sides. -/
import Derived.Test.YtdhdkhnefnbdgaaGreatDoorCext
import Derived.Test.YtdhdkhnefnbdgaaGreatDoorBcn
import Derived.Test.YtdhdkhnefnbdgaaGreatDoorOBeacon
import Derived.Test.YtdhdkhnefnbdgaaGreatDoorWs
namespace Go.Proofs.YtdhdkhnefnbdgaaGreatDoor
open Go.ChangeShapes Go.WideShapes Go.ChangeAt Go.RowKit
set_option linter.unusedVariables false
/-- A beacon that may stand behind the first k. -/
def okSt (n0 : Nat) (zA : List TAS) (zl : List TLink) (n1 : Nat) (r : Int) (zs : List TBeacon) (x : TBeacon) (k : Nat) : Bool := ceB n0 zA zl n1 x.ts x.beta x.hops x.hops.length r x.ing && !anyB (fun y => eqBcV y.ing y.ts y.beta x.ing x.ts x.beta y.hops x.hops y.hops.length x.hops.length) zs k
def allK (f : Nat → Bool) : Nat → Bool
  | 0 => true
  | k + 1 => allK f k && f k
theorem allK_stop {f : Nat → Bool} {k : Nat} (h : f k = false) : ∀ n, k < n → allK f n = false
  | 0, hk => absurd hk (by omega)
  | n + 1, hk => by
    rw [allK]
    by_cases e : k = n
    · subst e; rw [h]; simp
    · rw [allK_stop h n (by omega)]; rfl
theorem allK_go {f : Nat → Bool} {k : Nat} (h0 : allK f k = true) (h : f k = true) : allK f (k + 1) = true := by rw [allK, h0, h]; rfl
def stB (n0 : Nat) (zA : List TAS) (zl : List TLink) (n1 : Nat) (r : Int) (zs : List TBeacon) (n : Nat) : Bool := decide (n ≤ 12) && allK (fun i => okSt n0 zA zl n1 r zs (zs.getD i default) i) n
theorem getD_takeB {zs : List TBeacon} {k i : Nat} (h : i < k) : (zs.take k).getD i default = zs.getD i default := by
  simp only [List.getD_eq_getElem?_getD, List.getElem?_take, if_pos h]
theorem hasBeacon_take {w : World} {B n k : Nat} {a : Option Addr} {zs : List TBeacon} (h : HasBeacon w B a n zs) (hk : k ≤ n) : HasBeacon w B a k (zs.take k) := by
  refine ⟨by rw [List.length_take, h.1]; omega, fun h0 => ?_⟩
  obtain ⟨b, off, e, hb, hx⟩ := h.2 (by omega)
  refine ⟨b, off, e, hb, fun i hi => ?_⟩
  rw [getD_takeB hi]
  exact hx i (by omega)
theorem anyB_take (p : TBeacon → Bool) (zs : List TBeacon) (k : Nat) : ∀ m, m ≤ k → anyB p (zs.take k) m = anyB p zs m
  | 0, _ => rfl
  | m + 1, h => by rw [anyB, anyB, anyB_take p zs k m (by omega), getD_takeB (by omega)]
theorem szBeacon_take {zs : List TBeacon} {n k : Nat} (h : k ≤ n) : szBeacon (zs.take k) k ≤ szBeacon zs n := by
  have h1 : ∀ m, m ≤ k → sumTo seBeacon (zs.take k) m = sumTo seBeacon zs m := by
    intro m
    induction m with
    | zero => intro _; rfl
    | succ m ih => intro hm; rw [sumTo, sumTo, ih (by omega), getD_takeB (by omega)]
  have h2 := sumTo_le seBeacon zs h
  unfold szBeacon
  rw [h1 k (Nat.le_refl _)]
  omega
set_option maxRecDepth 100000 in
set_option maxHeartbeats 16000000 in
theorem specVStore (a0 a1 : Option Addr) (n0 c0 n1 c1 B : Nat) (zA : List TAS) (zl : List TLink) (r : Int) (a : Option Addr) (n c B' : Nat) (zs : List TBeacon) (w : World) (hA : HasAS w B a0 n0 zA) (hl : HasLink w B a1 n1 zl) (hB : B ≤ w.heap.size) (hn0 : n0 ≤ 1048576) (hn1 : n1 ≤ 1048576) (h : HasBeacon w B' a n zs) (hB' : B' ≤ w.heap.size) (hs : szBeacon zs n ≤ 1048576) (hnc : n ≤ c) (hz : ∀ y ∈ zA, TAS.fits y) (hf : ∀ y ∈ zs, TBeacon.fits y) :
    Calls Tryz.prog 14 #[.agg #[.slice a0 n0 c0, .slice a1 n1 c1], .int .i64 r, .slice a n c] w fun e w' => e = .returned (.bool (stB n0 zA zl n1 r zs n)) ∧ Mk0 w w' := by
  have M0 : Mk0 w (w.alloc (Obj.cells #[Value.slice a0 n0 c0, Value.slice a1 n1 c1] 35)) := (Mk.alloc w (Obj.cells #[Value.slice a0 n0 c0, Value.slice a1 n1 c1] 35))
  have k0 : (w.alloc (Obj.cells #[Value.slice a0 n0 c0, Value.slice a1 n1 c1] 35)).cell? ⟨w.heap.size, 0, none⟩ = some (.slice a0 n0 c0) := by simp [go_sem]
  have k1 : (w.alloc (Obj.cells #[Value.slice a0 n0 c0, Value.slice a1 n1 c1] 35)).cell? ⟨w.heap.size, 1, none⟩ = some (.slice a1 n1 c1) := by simp [go_sem]
  have hs0 : (w.alloc (Obj.cells #[Value.slice a0 n0 c0, Value.slice a1 n1 c1] 35)).heap.size = w.heap.size + 1 := by simp only [World.size_alloc]
  have hn := Nat.le_trans (szBeacon_n zs n) hs
  obtain ⟨FF, hFF⟩ : ∃ F, Hid (F = (fun i => okSt n0 zA zl n1 r zs (zs.getD i default) i)) := ⟨_, Lib.hid rfl⟩
  have HR : Hid (stB n0 zA zl n1 r zs n = (decide (n ≤ 12) && allK FF n)) := Lib.hid (by rw [hFF.out]; rfl)
  have K0 := Lib.hid k0
  have K1 := Lib.hid k1
  go_enter Tryz.func14, Tryz.ntmps14
  go_wp2_with fail
  clear k0 k1
  generalize (w.alloc (Obj.cells #[Value.slice a0 n0 c0, Value.slice a1 n1 c1] 35)) = wb at *
  go_loopw [6, 7] (fun q i wr => q = .bool false ∧ ∃ k : Nat, k ≤ n ∧ i = .int .i64 (k : Int) ∧ Hid (allK FF k = true) ∧ Mk0 wb wr) (fun _ i _ => n - (intOf i).toNat)
  case atStart => exact ⟨rfl, 0, Nat.zero_le _, rfl, Lib.hid rfl, Mk.refl _ _ _⟩
  case round =>
    obtain ⟨rfl, k, hk, rfl, hAll, hM⟩ := hrel
    have hMW := M0.trans hM
    have k0 := hM.cellAt K0.out
    have k1 := hM.cellAt K1.out
    by_cases hlt : k < n
    · obtain ⟨b, off, x, rfl, hb, hx, a3, n3, c3, d0, d1, d2, d3, hr, p1, p2, p3⟩ := HasBeacon.at _ _ _ _ _ _ (h.mk hMW hB' (.inr (Nat.le_refl _))) hlt
      have hbd : n3 ≤ 1048576 := by have h1 := szBeacon_at zs hlt; rw [← hx.out] at h1; unfold seBeacon at h1; have h2 : x.hops.length = n3 := hr.1; omega
      have hn3 := hr.1
      have hbr := World.block_lt_of_cell? _ _ d0
      simp only at hbr
      have i1 : (0 : Int) ≤ (k : Int) := by omega
      have i2 : (k : Int) < (n : Int) := by omega
      have i3 : (k : Int) ≤ (c : Int) := by omega
      have i4 : k ≤ c := by omega
      have hBr := Nat.le_trans hB' hMW.size
      have hBt := Nat.le_trans hB hMW.size
      have hA' := hA.mk hMW hB (.inr (Nat.le_refl _))
      have hl' := hl.mk hMW hB (.inr (Nat.le_refl _))
      have hfx : TBeacon.fits x := by rw [hx.out, List.getD_eq_getElem?_getD, List.getElem?_eq_getElem (by rw [h.1]; exact hlt)]; exact hf _ (List.getElem_mem _)
      have hPre := hasBeacon_take (h.mk hMW hB' (.inr (Nat.le_refl _))) hk
      have hPs := Nat.le_trans (szBeacon_take (zs := zs) hk) hs
      obtain ⟨ce, hce⟩ : ∃ v, v = ceB n0 zA zl n1 x.ts x.beta x.hops n3 r x.ing := ⟨_, rfl⟩
      obtain ⟨ha, hha⟩ : ∃ v, v = anyB (fun y => eqBcV y.ing y.ts y.beta x.ing x.ts x.beta y.hops x.hops y.hops.length n3) zs k := ⟨_, rfl⟩
      have HFk := Lib.hid (show FF k = (ce && !ha) by rw [hFF.out, hce, hha]; show okSt n0 zA zl n1 r zs (zs.getD k default) k = _; rw [← hx.out]; unfold okSt; rw [hn3])
      replace hce := Lib.hid hce
      replace hha := Lib.hid hha
      cases ce
      · have HE := Lib.hid (show allK FF n = false from allK_stop HFk.out n hlt)
        go_wp2_with fail
        refine wp_region_wk (fun w' => Mk0 wr w' ∧ w'.cell? ⟨w.heap.size, 0, none⟩ = some (.slice a0 n0 c0) ∧ w'.cell? ⟨w.heap.size, 1, none⟩ = some (.slice a1 n1 c1) ∧ w'.cell? ⟨b, off + k * 4, none⟩ = some (.int .i64 x.ing) ∧ w'.cell? ⟨b, off + k * 4 + 1, none⟩ = some (.int .i64 x.ts) ∧ w'.cell? ⟨b, off + k * 4 + 2, none⟩ = some (.int .i64 x.beta) ∧ w'.cell? ⟨b, off + k * 4 + 3, none⟩ = some (.slice a3 n3 c3)) (by kernel_rfl) (by kernel_rfl) (⟨Mk.drew1 _, k0, k1, d0, d1, d2, d3⟩) ?_
        change Wk _ _ _ _ 24 0 _
        first | (refine Wk.skip (m := 23) (k := 0) rfl (by rfl) ?_) | (refine Wk.step (m := 23) (k := 0) (v := _) rfl (by rfl) (fun wv hS => by obtain ⟨s0, s1, s2, s3, s4, s5, s6⟩ := hS; go_simp; try with_reducible rfl) ?_)
        try simp only [Act.put, List.getElem_toArray, List.getElem_cons_zero, List.setIfInBounds_toArray, List.set_cons_zero, List.set_cons_succ]
        first | (refine Wk.skip (m := 22) (k := 1) rfl (by rfl) ?_) | (refine Wk.step (m := 22) (k := 1) (v := _) rfl (by rfl) (fun wv hS => by obtain ⟨s0, s1, s2, s3, s4, s5, s6⟩ := hS; go_simp; try with_reducible rfl) ?_)
        try simp only [Act.put, List.getElem_toArray, List.getElem_cons_succ, List.getElem_cons_zero, List.setIfInBounds_toArray, List.set_cons_zero, List.set_cons_succ]
        first | (refine Wk.skip (m := 21) (k := 2) rfl (by rfl) ?_) | (refine Wk.step (m := 21) (k := 2) (v := _) rfl (by rfl) (fun wv hS => by obtain ⟨s0, s1, s2, s3, s4, s5, s6⟩ := hS; go_simp; try with_reducible rfl) ?_)
        try simp only [Act.put, List.getElem_toArray, List.getElem_cons_succ, List.getElem_cons_zero, List.setIfInBounds_toArray, List.set_cons_zero, List.set_cons_succ]
        first | (refine Wk.skip (m := 20) (k := 3) rfl (by rfl) ?_) | (refine Wk.step (m := 20) (k := 3) (v := _) rfl (by rfl) (fun wv hS => by obtain ⟨s0, s1, s2, s3, s4, s5, s6⟩ := hS; go_simp; try with_reducible rfl) ?_)
        try simp only [Act.put, List.getElem_toArray, List.getElem_cons_succ, List.getElem_cons_zero, List.setIfInBounds_toArray, List.set_cons_zero, List.set_cons_succ]
        first | (refine Wk.skip (m := 19) (k := 4) rfl (by rfl) ?_) | (refine Wk.step (m := 19) (k := 4) (v := _) rfl (by rfl) (fun wv hS => by obtain ⟨s0, s1, s2, s3, s4, s5, s6⟩ := hS; go_simp; try with_reducible rfl) ?_)
        try simp only [Act.put, List.getElem_toArray, List.getElem_cons_succ, List.getElem_cons_zero, List.setIfInBounds_toArray, List.set_cons_zero, List.set_cons_succ]
        first | (refine Wk.skip (m := 18) (k := 5) rfl (by rfl) ?_) | (refine Wk.step (m := 18) (k := 5) (v := _) rfl (by rfl) (fun wv hS => by obtain ⟨s0, s1, s2, s3, s4, s5, s6⟩ := hS; go_simp; try with_reducible rfl) ?_)
        try simp only [Act.put, List.getElem_toArray, List.getElem_cons_succ, List.getElem_cons_zero, List.setIfInBounds_toArray, List.set_cons_zero, List.set_cons_succ]
        first | (refine Wk.skip (m := 17) (k := 6) rfl (by rfl) ?_) | (refine Wk.step (m := 17) (k := 6) (v := _) rfl (by rfl) (fun wv hS => by obtain ⟨s0, s1, s2, s3, s4, s5, s6⟩ := hS; go_simp; try with_reducible rfl) ?_)
        try simp only [Act.put, List.getElem_toArray, List.getElem_cons_succ, List.getElem_cons_zero, List.setIfInBounds_toArray, List.set_cons_zero, List.set_cons_succ]
        first | (refine Wk.skip (m := 16) (k := 7) rfl (by rfl) ?_) | (refine Wk.step (m := 16) (k := 7) (v := _) rfl (by rfl) (fun wv hS => by obtain ⟨s0, s1, s2, s3, s4, s5, s6⟩ := hS; go_simp; try with_reducible rfl) ?_)
        try simp only [Act.put, List.getElem_toArray, List.getElem_cons_succ, List.getElem_cons_zero, List.setIfInBounds_toArray, List.set_cons_zero, List.set_cons_succ]
        first | (refine Wk.skip (m := 15) (k := 8) rfl (by rfl) ?_) | (refine Wk.step (m := 15) (k := 8) (v := _) rfl (by rfl) (fun wv hS => by obtain ⟨s0, s1, s2, s3, s4, s5, s6⟩ := hS; go_simp; try with_reducible rfl) ?_)
        try simp only [Act.put, List.getElem_toArray, List.getElem_cons_succ, List.getElem_cons_zero, List.setIfInBounds_toArray, List.set_cons_zero, List.set_cons_succ]
        first | (refine Wk.skip (m := 14) (k := 9) rfl (by rfl) ?_) | (refine Wk.step (m := 14) (k := 9) (v := _) rfl (by rfl) (fun wv hS => by obtain ⟨s0, s1, s2, s3, s4, s5, s6⟩ := hS; go_simp; try with_reducible rfl) ?_)
        try simp only [Act.put, List.getElem_toArray, List.getElem_cons_succ, List.getElem_cons_zero, List.setIfInBounds_toArray, List.set_cons_zero, List.set_cons_succ]
        first | (refine Wk.skip (m := 13) (k := 10) rfl (by rfl) ?_) | (refine Wk.step (m := 13) (k := 10) (v := _) rfl (by rfl) (fun wv hS => by obtain ⟨s0, s1, s2, s3, s4, s5, s6⟩ := hS; go_simp; try with_reducible rfl) ?_)
        try simp only [Act.put, List.getElem_toArray, List.getElem_cons_succ, List.getElem_cons_zero, List.setIfInBounds_toArray, List.set_cons_zero, List.set_cons_succ]
        first | (refine Wk.skip (m := 12) (k := 11) rfl (by rfl) ?_) | (refine Wk.step (m := 12) (k := 11) (v := _) rfl (by rfl) (fun wv hS => by obtain ⟨s0, s1, s2, s3, s4, s5, s6⟩ := hS; go_simp; try with_reducible rfl) ?_)
        try simp only [Act.put, List.getElem_toArray, List.getElem_cons_succ, List.getElem_cons_zero, List.setIfInBounds_toArray, List.set_cons_zero, List.set_cons_succ]
        refine Wk.call (m := 11) (k := 12) (v := .bool false) _ _ rfl (by rfl) (fun wv hS => by obtain ⟨s0, s1, s2, s3, s4, s5, s6⟩ := hS; go_simp; first | done | exact ⟨rfl, rfl⟩ | with_reducible rfl) (fun wv hS => ?_) ?_; · obtain ⟨s0, s1, s2, s3, s4, s5, s6⟩ := hS; refine (specCExt a0 a1 n0 c0 n1 c1 B zA zl x.ts x.beta a3 n3 c3 B' x.hops r x.ing wv (hA'.mk s0 hBt (.inr (Nat.le_refl _))) (hl'.mk s0 hBt (.inr (Nat.le_refl _))) (Nat.le_trans hBt s0.size) hn0 hn1 (hr.mk s0 hBr (.inr (Nat.le_refl _))) (Nat.le_trans hBr s0.size) hbd hz hfx.2.1 hfx.2.2.1 hfx.2.2.2).mono ?_; rintro e w' ⟨he, mm⟩; exact ⟨by rw [he, ← hce.out], ⟨s0.trans mm, mm.cellAt s1, mm.cellAt s2, mm.cellAt s3, mm.cellAt s4, mm.cellAt s5, mm.cellAt s6⟩⟩
        try simp only [Act.put, List.getElem_toArray, List.getElem_cons_succ, List.getElem_cons_zero, List.setIfInBounds_toArray, List.set_cons_zero, List.set_cons_succ]
        first | (refine Wk.skip (m := 10) (k := 13) rfl (by rfl) ?_) | (refine Wk.step (m := 10) (k := 13) (v := _) rfl (by rfl) (fun wv hS => by obtain ⟨s0, s1, s2, s3, s4, s5, s6⟩ := hS; go_simp; try with_reducible rfl) ?_)
        try simp only [Act.put, List.getElem_toArray, List.getElem_cons_succ, List.getElem_cons_zero, List.setIfInBounds_toArray, List.set_cons_zero, List.set_cons_succ]
        first | (refine Wk.skip (m := 9) (k := 14) rfl (by rfl) ?_) | (refine Wk.step (m := 9) (k := 14) (v := _) rfl (by rfl) (fun wv hS => by obtain ⟨s0, s1, s2, s3, s4, s5, s6⟩ := hS; go_simp; try with_reducible rfl) ?_)
        try simp only [Act.put, List.getElem_toArray, List.getElem_cons_succ, List.getElem_cons_zero, List.setIfInBounds_toArray, List.set_cons_zero, List.set_cons_succ]
        first | (refine Wk.skip (m := 8) (k := 15) rfl (by rfl) ?_) | (refine Wk.step (m := 8) (k := 15) (v := _) rfl (by rfl) (fun wv hS => by obtain ⟨s0, s1, s2, s3, s4, s5, s6⟩ := hS; go_simp; try with_reducible rfl) ?_)
        try simp only [Act.put, List.getElem_toArray, List.getElem_cons_succ, List.getElem_cons_zero, List.setIfInBounds_toArray, List.set_cons_zero, List.set_cons_succ]
        first | (refine Wk.skip (m := 7) (k := 16) rfl (by rfl) ?_) | (refine Wk.step (m := 7) (k := 16) (v := _) rfl (by rfl) (fun wv hS => by obtain ⟨s0, s1, s2, s3, s4, s5, s6⟩ := hS; go_simp; try with_reducible rfl) ?_)
        try simp only [Act.put, List.getElem_toArray, List.getElem_cons_succ, List.getElem_cons_zero, List.setIfInBounds_toArray, List.set_cons_zero, List.set_cons_succ]
        first | (refine Wk.skip (m := 6) (k := 17) rfl (by rfl) ?_) | (refine Wk.step (m := 6) (k := 17) (v := _) rfl (by rfl) (fun wv hS => by obtain ⟨s0, s1, s2, s3, s4, s5, s6⟩ := hS; go_simp; try with_reducible rfl) ?_)
        try simp only [Act.put, List.getElem_toArray, List.getElem_cons_succ, List.getElem_cons_zero, List.setIfInBounds_toArray, List.set_cons_zero, List.set_cons_succ]
        first | (refine Wk.skip (m := 5) (k := 18) rfl (by rfl) ?_) | (refine Wk.step (m := 5) (k := 18) (v := _) rfl (by rfl) (fun wv hS => by obtain ⟨s0, s1, s2, s3, s4, s5, s6⟩ := hS; go_simp; try with_reducible rfl) ?_)
        try simp only [Act.put, List.getElem_toArray, List.getElem_cons_succ, List.getElem_cons_zero, List.setIfInBounds_toArray, List.set_cons_zero, List.set_cons_succ]
        first | (refine Wk.skip (m := 4) (k := 19) rfl (by rfl) ?_) | (refine Wk.step (m := 4) (k := 19) (v := _) rfl (by rfl) (fun wv hS => by obtain ⟨s0, s1, s2, s3, s4, s5, s6⟩ := hS; go_simp; try with_reducible rfl) ?_)
        try simp only [Act.put, List.getElem_toArray, List.getElem_cons_succ, List.getElem_cons_zero, List.setIfInBounds_toArray, List.set_cons_zero, List.set_cons_succ]
        first | (refine Wk.skip (m := 3) (k := 20) rfl (by rfl) ?_) | (refine Wk.step (m := 3) (k := 20) (v := _) rfl (by rfl) (fun wv hS => by obtain ⟨s0, s1, s2, s3, s4, s5, s6⟩ := hS; go_simp; try with_reducible rfl) ?_)
        try simp only [Act.put, List.getElem_toArray, List.getElem_cons_succ, List.getElem_cons_zero, List.setIfInBounds_toArray, List.set_cons_zero, List.set_cons_succ]
        first | (refine Wk.skip (m := 2) (k := 21) rfl (by rfl) ?_) | (refine Wk.step (m := 2) (k := 21) (v := _) rfl (by rfl) (fun wv hS => by obtain ⟨s0, s1, s2, s3, s4, s5, s6⟩ := hS; go_simp; try with_reducible rfl) ?_)
        try simp only [Act.put, List.getElem_toArray, List.getElem_cons_succ, List.getElem_cons_zero, List.setIfInBounds_toArray, List.set_cons_zero, List.set_cons_succ]
        refine Wk.skip (m := 1) (k := 22) rfl (by rfl) ?_
        try simp only [Act.put, List.getElem_toArray, List.getElem_cons_succ, List.getElem_cons_zero, List.setIfInBounds_toArray, List.set_cons_zero, List.set_cons_succ]
        first | (refine Wk.skip (m := 0) (k := 23) rfl (by rfl) ?_) | (refine Wk.step (m := 0) (k := 23) (v := _) rfl (by rfl) (fun wv hS => by obtain ⟨s0, s1, s2, s3, s4, s5, s6⟩ := hS; go_simp; try with_reducible rfl) ?_)
        try simp only [Act.put, List.getElem_toArray, List.getElem_cons_succ, List.getElem_cons_zero, List.setIfInBounds_toArray, List.set_cons_zero, List.set_cons_succ]
        refine Wk.done fun wE hE => ?_
        clear k0 k1 d0 d1 d2 d3
        obtain ⟨mE, k0, k1, d0, d1, d2, d3⟩ := hE
        go_wp2_with fail
        go_ret
        exact ⟨retB (by rw [HR.out, HE.out, Bool.and_false]), hMW.trans (mE)⟩
      · cases ha
        · have HE := Lib.hid (show allK FF (k + 1) = true from allK_go hAll.out HFk.out)
          go_wp2_with fail
          refine wp_region_wk (fun w' => Mk0 wr w' ∧ w'.cell? ⟨w.heap.size, 0, none⟩ = some (.slice a0 n0 c0) ∧ w'.cell? ⟨w.heap.size, 1, none⟩ = some (.slice a1 n1 c1) ∧ w'.cell? ⟨b, off + k * 4, none⟩ = some (.int .i64 x.ing) ∧ w'.cell? ⟨b, off + k * 4 + 1, none⟩ = some (.int .i64 x.ts) ∧ w'.cell? ⟨b, off + k * 4 + 2, none⟩ = some (.int .i64 x.beta) ∧ w'.cell? ⟨b, off + k * 4 + 3, none⟩ = some (.slice a3 n3 c3)) (by kernel_rfl) (by kernel_rfl) (⟨Mk.drew1 _, k0, k1, d0, d1, d2, d3⟩) ?_
          change Wk _ _ _ _ 24 0 _
          first | (refine Wk.skip (m := 23) (k := 0) rfl (by rfl) ?_) | (refine Wk.step (m := 23) (k := 0) (v := _) rfl (by rfl) (fun wv hS => by obtain ⟨s0, s1, s2, s3, s4, s5, s6⟩ := hS; go_simp; try with_reducible rfl) ?_)
          try simp only [Act.put, List.getElem_toArray, List.getElem_cons_zero, List.setIfInBounds_toArray, List.set_cons_zero, List.set_cons_succ]
          first | (refine Wk.skip (m := 22) (k := 1) rfl (by rfl) ?_) | (refine Wk.step (m := 22) (k := 1) (v := _) rfl (by rfl) (fun wv hS => by obtain ⟨s0, s1, s2, s3, s4, s5, s6⟩ := hS; go_simp; try with_reducible rfl) ?_)
          try simp only [Act.put, List.getElem_toArray, List.getElem_cons_succ, List.getElem_cons_zero, List.setIfInBounds_toArray, List.set_cons_zero, List.set_cons_succ]
          first | (refine Wk.skip (m := 21) (k := 2) rfl (by rfl) ?_) | (refine Wk.step (m := 21) (k := 2) (v := _) rfl (by rfl) (fun wv hS => by obtain ⟨s0, s1, s2, s3, s4, s5, s6⟩ := hS; go_simp; try with_reducible rfl) ?_)
          try simp only [Act.put, List.getElem_toArray, List.getElem_cons_succ, List.getElem_cons_zero, List.setIfInBounds_toArray, List.set_cons_zero, List.set_cons_succ]
          first | (refine Wk.skip (m := 20) (k := 3) rfl (by rfl) ?_) | (refine Wk.step (m := 20) (k := 3) (v := _) rfl (by rfl) (fun wv hS => by obtain ⟨s0, s1, s2, s3, s4, s5, s6⟩ := hS; go_simp; try with_reducible rfl) ?_)
          try simp only [Act.put, List.getElem_toArray, List.getElem_cons_succ, List.getElem_cons_zero, List.setIfInBounds_toArray, List.set_cons_zero, List.set_cons_succ]
          first | (refine Wk.skip (m := 19) (k := 4) rfl (by rfl) ?_) | (refine Wk.step (m := 19) (k := 4) (v := _) rfl (by rfl) (fun wv hS => by obtain ⟨s0, s1, s2, s3, s4, s5, s6⟩ := hS; go_simp; try with_reducible rfl) ?_)
          try simp only [Act.put, List.getElem_toArray, List.getElem_cons_succ, List.getElem_cons_zero, List.setIfInBounds_toArray, List.set_cons_zero, List.set_cons_succ]
          first | (refine Wk.skip (m := 18) (k := 5) rfl (by rfl) ?_) | (refine Wk.step (m := 18) (k := 5) (v := _) rfl (by rfl) (fun wv hS => by obtain ⟨s0, s1, s2, s3, s4, s5, s6⟩ := hS; go_simp; try with_reducible rfl) ?_)
          try simp only [Act.put, List.getElem_toArray, List.getElem_cons_succ, List.getElem_cons_zero, List.setIfInBounds_toArray, List.set_cons_zero, List.set_cons_succ]
          first | (refine Wk.skip (m := 17) (k := 6) rfl (by rfl) ?_) | (refine Wk.step (m := 17) (k := 6) (v := _) rfl (by rfl) (fun wv hS => by obtain ⟨s0, s1, s2, s3, s4, s5, s6⟩ := hS; go_simp; try with_reducible rfl) ?_)
          try simp only [Act.put, List.getElem_toArray, List.getElem_cons_succ, List.getElem_cons_zero, List.setIfInBounds_toArray, List.set_cons_zero, List.set_cons_succ]
          first | (refine Wk.skip (m := 16) (k := 7) rfl (by rfl) ?_) | (refine Wk.step (m := 16) (k := 7) (v := _) rfl (by rfl) (fun wv hS => by obtain ⟨s0, s1, s2, s3, s4, s5, s6⟩ := hS; go_simp; try with_reducible rfl) ?_)
          try simp only [Act.put, List.getElem_toArray, List.getElem_cons_succ, List.getElem_cons_zero, List.setIfInBounds_toArray, List.set_cons_zero, List.set_cons_succ]
          first | (refine Wk.skip (m := 15) (k := 8) rfl (by rfl) ?_) | (refine Wk.step (m := 15) (k := 8) (v := _) rfl (by rfl) (fun wv hS => by obtain ⟨s0, s1, s2, s3, s4, s5, s6⟩ := hS; go_simp; try with_reducible rfl) ?_)
          try simp only [Act.put, List.getElem_toArray, List.getElem_cons_succ, List.getElem_cons_zero, List.setIfInBounds_toArray, List.set_cons_zero, List.set_cons_succ]
          first | (refine Wk.skip (m := 14) (k := 9) rfl (by rfl) ?_) | (refine Wk.step (m := 14) (k := 9) (v := _) rfl (by rfl) (fun wv hS => by obtain ⟨s0, s1, s2, s3, s4, s5, s6⟩ := hS; go_simp; try with_reducible rfl) ?_)
          try simp only [Act.put, List.getElem_toArray, List.getElem_cons_succ, List.getElem_cons_zero, List.setIfInBounds_toArray, List.set_cons_zero, List.set_cons_succ]
          first | (refine Wk.skip (m := 13) (k := 10) rfl (by rfl) ?_) | (refine Wk.step (m := 13) (k := 10) (v := _) rfl (by rfl) (fun wv hS => by obtain ⟨s0, s1, s2, s3, s4, s5, s6⟩ := hS; go_simp; try with_reducible rfl) ?_)
          try simp only [Act.put, List.getElem_toArray, List.getElem_cons_succ, List.getElem_cons_zero, List.setIfInBounds_toArray, List.set_cons_zero, List.set_cons_succ]
          first | (refine Wk.skip (m := 12) (k := 11) rfl (by rfl) ?_) | (refine Wk.step (m := 12) (k := 11) (v := _) rfl (by rfl) (fun wv hS => by obtain ⟨s0, s1, s2, s3, s4, s5, s6⟩ := hS; go_simp; try with_reducible rfl) ?_)
          try simp only [Act.put, List.getElem_toArray, List.getElem_cons_succ, List.getElem_cons_zero, List.setIfInBounds_toArray, List.set_cons_zero, List.set_cons_succ]
          refine Wk.call (m := 11) (k := 12) (v := .bool true) _ _ rfl (by rfl) (fun wv hS => by obtain ⟨s0, s1, s2, s3, s4, s5, s6⟩ := hS; go_simp; first | done | exact ⟨rfl, rfl⟩ | with_reducible rfl) (fun wv hS => ?_) ?_; · obtain ⟨s0, s1, s2, s3, s4, s5, s6⟩ := hS; refine (specCExt a0 a1 n0 c0 n1 c1 B zA zl x.ts x.beta a3 n3 c3 B' x.hops r x.ing wv (hA'.mk s0 hBt (.inr (Nat.le_refl _))) (hl'.mk s0 hBt (.inr (Nat.le_refl _))) (Nat.le_trans hBt s0.size) hn0 hn1 (hr.mk s0 hBr (.inr (Nat.le_refl _))) (Nat.le_trans hBr s0.size) hbd hz hfx.2.1 hfx.2.2.1 hfx.2.2.2).mono ?_; rintro e w' ⟨he, mm⟩; exact ⟨by rw [he, ← hce.out], ⟨s0.trans mm, mm.cellAt s1, mm.cellAt s2, mm.cellAt s3, mm.cellAt s4, mm.cellAt s5, mm.cellAt s6⟩⟩
          try simp only [Act.put, List.getElem_toArray, List.getElem_cons_succ, List.getElem_cons_zero, List.setIfInBounds_toArray, List.set_cons_zero, List.set_cons_succ]
          first | (refine Wk.skip (m := 10) (k := 13) rfl (by rfl) ?_) | (refine Wk.step (m := 10) (k := 13) (v := _) rfl (by rfl) (fun wv hS => by obtain ⟨s0, s1, s2, s3, s4, s5, s6⟩ := hS; go_simp; try with_reducible rfl) ?_)
          try simp only [Act.put, List.getElem_toArray, List.getElem_cons_succ, List.getElem_cons_zero, List.setIfInBounds_toArray, List.set_cons_zero, List.set_cons_succ]
          first | (refine Wk.skip (m := 9) (k := 14) rfl (by rfl) ?_) | (refine Wk.step (m := 9) (k := 14) (v := _) rfl (by rfl) (fun wv hS => by obtain ⟨s0, s1, s2, s3, s4, s5, s6⟩ := hS; go_simp; try with_reducible rfl) ?_)
          try simp only [Act.put, List.getElem_toArray, List.getElem_cons_succ, List.getElem_cons_zero, List.setIfInBounds_toArray, List.set_cons_zero, List.set_cons_succ]
          first | (refine Wk.skip (m := 8) (k := 15) rfl (by rfl) ?_) | (refine Wk.step (m := 8) (k := 15) (v := _) rfl (by rfl) (fun wv hS => by obtain ⟨s0, s1, s2, s3, s4, s5, s6⟩ := hS; go_simp; try with_reducible rfl) ?_)
          try simp only [Act.put, List.getElem_toArray, List.getElem_cons_succ, List.getElem_cons_zero, List.setIfInBounds_toArray, List.set_cons_zero, List.set_cons_succ]
          first | (refine Wk.skip (m := 7) (k := 16) rfl (by rfl) ?_) | (refine Wk.step (m := 7) (k := 16) (v := _) rfl (by rfl) (fun wv hS => by obtain ⟨s0, s1, s2, s3, s4, s5, s6⟩ := hS; go_simp; try with_reducible rfl) ?_)
          try simp only [Act.put, List.getElem_toArray, List.getElem_cons_succ, List.getElem_cons_zero, List.setIfInBounds_toArray, List.set_cons_zero, List.set_cons_succ]
          first | (refine Wk.skip (m := 6) (k := 17) rfl (by rfl) ?_) | (refine Wk.step (m := 6) (k := 17) (v := _) rfl (by rfl) (fun wv hS => by obtain ⟨s0, s1, s2, s3, s4, s5, s6⟩ := hS; go_simp; try with_reducible rfl) ?_)
          try simp only [Act.put, List.getElem_toArray, List.getElem_cons_succ, List.getElem_cons_zero, List.setIfInBounds_toArray, List.set_cons_zero, List.set_cons_succ]
          first | (refine Wk.skip (m := 5) (k := 18) rfl (by rfl) ?_) | (refine Wk.step (m := 5) (k := 18) (v := _) rfl (by rfl) (fun wv hS => by obtain ⟨s0, s1, s2, s3, s4, s5, s6⟩ := hS; go_simp; try with_reducible rfl) ?_)
          try simp only [Act.put, List.getElem_toArray, List.getElem_cons_succ, List.getElem_cons_zero, List.setIfInBounds_toArray, List.set_cons_zero, List.set_cons_succ]
          first | (refine Wk.skip (m := 4) (k := 19) rfl (by rfl) ?_) | (refine Wk.step (m := 4) (k := 19) (v := _) rfl (by rfl) (fun wv hS => by obtain ⟨s0, s1, s2, s3, s4, s5, s6⟩ := hS; go_simp; try with_reducible rfl) ?_)
          try simp only [Act.put, List.getElem_toArray, List.getElem_cons_succ, List.getElem_cons_zero, List.setIfInBounds_toArray, List.set_cons_zero, List.set_cons_succ]
          first | (refine Wk.skip (m := 3) (k := 20) rfl (by rfl) ?_) | (refine Wk.step (m := 3) (k := 20) (v := _) rfl (by rfl) (fun wv hS => by obtain ⟨s0, s1, s2, s3, s4, s5, s6⟩ := hS; go_simp; try with_reducible rfl) ?_)
          try simp only [Act.put, List.getElem_toArray, List.getElem_cons_succ, List.getElem_cons_zero, List.setIfInBounds_toArray, List.set_cons_zero, List.set_cons_succ]
          first | (refine Wk.skip (m := 2) (k := 21) rfl (by rfl) ?_) | (refine Wk.step (m := 2) (k := 21) (v := _) rfl (by rfl) (fun wv hS => by obtain ⟨s0, s1, s2, s3, s4, s5, s6⟩ := hS; go_simp; try with_reducible rfl) ?_)
          try simp only [Act.put, List.getElem_toArray, List.getElem_cons_succ, List.getElem_cons_zero, List.setIfInBounds_toArray, List.set_cons_zero, List.set_cons_succ]
          refine Wk.call (m := 1) (k := 22) (v := .bool false) _ _ rfl (by rfl) (fun wv hS => by obtain ⟨s0, s1, s2, s3, s4, s5, s6⟩ := hS; go_simp; first | done | exact ⟨rfl, rfl⟩ | with_reducible rfl) (fun wv hS => ?_) ?_; · obtain ⟨s0, s1, s2, s3, s4, s5, s6⟩ := hS; refine (specHasBc x.ing x.ts x.beta _ a3 k c n3 c3 B' B' (zs.take k) x.hops wv (hPre.mk s0 hBr (.inr (Nat.le_refl _))) (hr.mk s0 hBr (.inr (Nat.le_refl _))) (Nat.le_trans hBr s0.size) (Nat.le_trans hBr s0.size) hPs hbd).mono ?_; rintro e w' ⟨he, mm⟩; exact ⟨by rw [he, anyB_take _ _ _ _ (Nat.le_refl _), ← hha.out], ⟨s0.trans mm, mm.cellAt s1, mm.cellAt s2, mm.cellAt s3, mm.cellAt s4, mm.cellAt s5, mm.cellAt s6⟩⟩
          try simp only [Act.put, List.getElem_toArray, List.getElem_cons_succ, List.getElem_cons_zero, List.setIfInBounds_toArray, List.set_cons_zero, List.set_cons_succ]
          first | (refine Wk.skip (m := 0) (k := 23) rfl (by rfl) ?_) | (refine Wk.step (m := 0) (k := 23) (v := _) rfl (by rfl) (fun wv hS => by obtain ⟨s0, s1, s2, s3, s4, s5, s6⟩ := hS; go_simp; try with_reducible rfl) ?_)
          try simp only [Act.put, List.getElem_toArray, List.getElem_cons_succ, List.getElem_cons_zero, List.setIfInBounds_toArray, List.set_cons_zero, List.set_cons_succ]
          refine Wk.done fun wE hE => ?_
          clear k0 k1 d0 d1 d2 d3
          obtain ⟨mE, k0, k1, d0, d1, d2, d3⟩ := hE
          go_wp2_with fail
          go_roundw
          case rel => exact ⟨rfl, k + 1, by omega, by go_num, HE, hM.trans mE⟩
          case measure => simp [intOf]; omega
        · have HE := Lib.hid (show allK FF n = false from allK_stop HFk.out n hlt)
          go_wp2_with fail
          refine wp_region_wk (fun w' => Mk0 wr w' ∧ w'.cell? ⟨w.heap.size, 0, none⟩ = some (.slice a0 n0 c0) ∧ w'.cell? ⟨w.heap.size, 1, none⟩ = some (.slice a1 n1 c1) ∧ w'.cell? ⟨b, off + k * 4, none⟩ = some (.int .i64 x.ing) ∧ w'.cell? ⟨b, off + k * 4 + 1, none⟩ = some (.int .i64 x.ts) ∧ w'.cell? ⟨b, off + k * 4 + 2, none⟩ = some (.int .i64 x.beta) ∧ w'.cell? ⟨b, off + k * 4 + 3, none⟩ = some (.slice a3 n3 c3)) (by kernel_rfl) (by kernel_rfl) (⟨Mk.drew1 _, k0, k1, d0, d1, d2, d3⟩) ?_
          change Wk _ _ _ _ 24 0 _
          first | (refine Wk.skip (m := 23) (k := 0) rfl (by rfl) ?_) | (refine Wk.step (m := 23) (k := 0) (v := _) rfl (by rfl) (fun wv hS => by obtain ⟨s0, s1, s2, s3, s4, s5, s6⟩ := hS; go_simp; try with_reducible rfl) ?_)
          try simp only [Act.put, List.getElem_toArray, List.getElem_cons_zero, List.setIfInBounds_toArray, List.set_cons_zero, List.set_cons_succ]
          first | (refine Wk.skip (m := 22) (k := 1) rfl (by rfl) ?_) | (refine Wk.step (m := 22) (k := 1) (v := _) rfl (by rfl) (fun wv hS => by obtain ⟨s0, s1, s2, s3, s4, s5, s6⟩ := hS; go_simp; try with_reducible rfl) ?_)
          try simp only [Act.put, List.getElem_toArray, List.getElem_cons_succ, List.getElem_cons_zero, List.setIfInBounds_toArray, List.set_cons_zero, List.set_cons_succ]
          first | (refine Wk.skip (m := 21) (k := 2) rfl (by rfl) ?_) | (refine Wk.step (m := 21) (k := 2) (v := _) rfl (by rfl) (fun wv hS => by obtain ⟨s0, s1, s2, s3, s4, s5, s6⟩ := hS; go_simp; try with_reducible rfl) ?_)
          try simp only [Act.put, List.getElem_toArray, List.getElem_cons_succ, List.getElem_cons_zero, List.setIfInBounds_toArray, List.set_cons_zero, List.set_cons_succ]
          first | (refine Wk.skip (m := 20) (k := 3) rfl (by rfl) ?_) | (refine Wk.step (m := 20) (k := 3) (v := _) rfl (by rfl) (fun wv hS => by obtain ⟨s0, s1, s2, s3, s4, s5, s6⟩ := hS; go_simp; try with_reducible rfl) ?_)
          try simp only [Act.put, List.getElem_toArray, List.getElem_cons_succ, List.getElem_cons_zero, List.setIfInBounds_toArray, List.set_cons_zero, List.set_cons_succ]
          first | (refine Wk.skip (m := 19) (k := 4) rfl (by rfl) ?_) | (refine Wk.step (m := 19) (k := 4) (v := _) rfl (by rfl) (fun wv hS => by obtain ⟨s0, s1, s2, s3, s4, s5, s6⟩ := hS; go_simp; try with_reducible rfl) ?_)
          try simp only [Act.put, List.getElem_toArray, List.getElem_cons_succ, List.getElem_cons_zero, List.setIfInBounds_toArray, List.set_cons_zero, List.set_cons_succ]
          first | (refine Wk.skip (m := 18) (k := 5) rfl (by rfl) ?_) | (refine Wk.step (m := 18) (k := 5) (v := _) rfl (by rfl) (fun wv hS => by obtain ⟨s0, s1, s2, s3, s4, s5, s6⟩ := hS; go_simp; try with_reducible rfl) ?_)
          try simp only [Act.put, List.getElem_toArray, List.getElem_cons_succ, List.getElem_cons_zero, List.setIfInBounds_toArray, List.set_cons_zero, List.set_cons_succ]
          first | (refine Wk.skip (m := 17) (k := 6) rfl (by rfl) ?_) | (refine Wk.step (m := 17) (k := 6) (v := _) rfl (by rfl) (fun wv hS => by obtain ⟨s0, s1, s2, s3, s4, s5, s6⟩ := hS; go_simp; try with_reducible rfl) ?_)
          try simp only [Act.put, List.getElem_toArray, List.getElem_cons_succ, List.getElem_cons_zero, List.setIfInBounds_toArray, List.set_cons_zero, List.set_cons_succ]
          first | (refine Wk.skip (m := 16) (k := 7) rfl (by rfl) ?_) | (refine Wk.step (m := 16) (k := 7) (v := _) rfl (by rfl) (fun wv hS => by obtain ⟨s0, s1, s2, s3, s4, s5, s6⟩ := hS; go_simp; try with_reducible rfl) ?_)
          try simp only [Act.put, List.getElem_toArray, List.getElem_cons_succ, List.getElem_cons_zero, List.setIfInBounds_toArray, List.set_cons_zero, List.set_cons_succ]
          first | (refine Wk.skip (m := 15) (k := 8) rfl (by rfl) ?_) | (refine Wk.step (m := 15) (k := 8) (v := _) rfl (by rfl) (fun wv hS => by obtain ⟨s0, s1, s2, s3, s4, s5, s6⟩ := hS; go_simp; try with_reducible rfl) ?_)
          try simp only [Act.put, List.getElem_toArray, List.getElem_cons_succ, List.getElem_cons_zero, List.setIfInBounds_toArray, List.set_cons_zero, List.set_cons_succ]
          first | (refine Wk.skip (m := 14) (k := 9) rfl (by rfl) ?_) | (refine Wk.step (m := 14) (k := 9) (v := _) rfl (by rfl) (fun wv hS => by obtain ⟨s0, s1, s2, s3, s4, s5, s6⟩ := hS; go_simp; try with_reducible rfl) ?_)
          try simp only [Act.put, List.getElem_toArray, List.getElem_cons_succ, List.getElem_cons_zero, List.setIfInBounds_toArray, List.set_cons_zero, List.set_cons_succ]
          first | (refine Wk.skip (m := 13) (k := 10) rfl (by rfl) ?_) | (refine Wk.step (m := 13) (k := 10) (v := _) rfl (by rfl) (fun wv hS => by obtain ⟨s0, s1, s2, s3, s4, s5, s6⟩ := hS; go_simp; try with_reducible rfl) ?_)
          try simp only [Act.put, List.getElem_toArray, List.getElem_cons_succ, List.getElem_cons_zero, List.setIfInBounds_toArray, List.set_cons_zero, List.set_cons_succ]
          first | (refine Wk.skip (m := 12) (k := 11) rfl (by rfl) ?_) | (refine Wk.step (m := 12) (k := 11) (v := _) rfl (by rfl) (fun wv hS => by obtain ⟨s0, s1, s2, s3, s4, s5, s6⟩ := hS; go_simp; try with_reducible rfl) ?_)
          try simp only [Act.put, List.getElem_toArray, List.getElem_cons_succ, List.getElem_cons_zero, List.setIfInBounds_toArray, List.set_cons_zero, List.set_cons_succ]
          refine Wk.call (m := 11) (k := 12) (v := .bool true) _ _ rfl (by rfl) (fun wv hS => by obtain ⟨s0, s1, s2, s3, s4, s5, s6⟩ := hS; go_simp; first | done | exact ⟨rfl, rfl⟩ | with_reducible rfl) (fun wv hS => ?_) ?_; · obtain ⟨s0, s1, s2, s3, s4, s5, s6⟩ := hS; refine (specCExt a0 a1 n0 c0 n1 c1 B zA zl x.ts x.beta a3 n3 c3 B' x.hops r x.ing wv (hA'.mk s0 hBt (.inr (Nat.le_refl _))) (hl'.mk s0 hBt (.inr (Nat.le_refl _))) (Nat.le_trans hBt s0.size) hn0 hn1 (hr.mk s0 hBr (.inr (Nat.le_refl _))) (Nat.le_trans hBr s0.size) hbd hz hfx.2.1 hfx.2.2.1 hfx.2.2.2).mono ?_; rintro e w' ⟨he, mm⟩; exact ⟨by rw [he, ← hce.out], ⟨s0.trans mm, mm.cellAt s1, mm.cellAt s2, mm.cellAt s3, mm.cellAt s4, mm.cellAt s5, mm.cellAt s6⟩⟩
          try simp only [Act.put, List.getElem_toArray, List.getElem_cons_succ, List.getElem_cons_zero, List.setIfInBounds_toArray, List.set_cons_zero, List.set_cons_succ]
          first | (refine Wk.skip (m := 10) (k := 13) rfl (by rfl) ?_) | (refine Wk.step (m := 10) (k := 13) (v := _) rfl (by rfl) (fun wv hS => by obtain ⟨s0, s1, s2, s3, s4, s5, s6⟩ := hS; go_simp; try with_reducible rfl) ?_)
          try simp only [Act.put, List.getElem_toArray, List.getElem_cons_succ, List.getElem_cons_zero, List.setIfInBounds_toArray, List.set_cons_zero, List.set_cons_succ]
          first | (refine Wk.skip (m := 9) (k := 14) rfl (by rfl) ?_) | (refine Wk.step (m := 9) (k := 14) (v := _) rfl (by rfl) (fun wv hS => by obtain ⟨s0, s1, s2, s3, s4, s5, s6⟩ := hS; go_simp; try with_reducible rfl) ?_)
          try simp only [Act.put, List.getElem_toArray, List.getElem_cons_succ, List.getElem_cons_zero, List.setIfInBounds_toArray, List.set_cons_zero, List.set_cons_succ]
          first | (refine Wk.skip (m := 8) (k := 15) rfl (by rfl) ?_) | (refine Wk.step (m := 8) (k := 15) (v := _) rfl (by rfl) (fun wv hS => by obtain ⟨s0, s1, s2, s3, s4, s5, s6⟩ := hS; go_simp; try with_reducible rfl) ?_)
          try simp only [Act.put, List.getElem_toArray, List.getElem_cons_succ, List.getElem_cons_zero, List.setIfInBounds_toArray, List.set_cons_zero, List.set_cons_succ]
          first | (refine Wk.skip (m := 7) (k := 16) rfl (by rfl) ?_) | (refine Wk.step (m := 7) (k := 16) (v := _) rfl (by rfl) (fun wv hS => by obtain ⟨s0, s1, s2, s3, s4, s5, s6⟩ := hS; go_simp; try with_reducible rfl) ?_)
          try simp only [Act.put, List.getElem_toArray, List.getElem_cons_succ, List.getElem_cons_zero, List.setIfInBounds_toArray, List.set_cons_zero, List.set_cons_succ]
          first | (refine Wk.skip (m := 6) (k := 17) rfl (by rfl) ?_) | (refine Wk.step (m := 6) (k := 17) (v := _) rfl (by rfl) (fun wv hS => by obtain ⟨s0, s1, s2, s3, s4, s5, s6⟩ := hS; go_simp; try with_reducible rfl) ?_)
          try simp only [Act.put, List.getElem_toArray, List.getElem_cons_succ, List.getElem_cons_zero, List.setIfInBounds_toArray, List.set_cons_zero, List.set_cons_succ]
          first | (refine Wk.skip (m := 5) (k := 18) rfl (by rfl) ?_) | (refine Wk.step (m := 5) (k := 18) (v := _) rfl (by rfl) (fun wv hS => by obtain ⟨s0, s1, s2, s3, s4, s5, s6⟩ := hS; go_simp; try with_reducible rfl) ?_)
          try simp only [Act.put, List.getElem_toArray, List.getElem_cons_succ, List.getElem_cons_zero, List.setIfInBounds_toArray, List.set_cons_zero, List.set_cons_succ]
          first | (refine Wk.skip (m := 4) (k := 19) rfl (by rfl) ?_) | (refine Wk.step (m := 4) (k := 19) (v := _) rfl (by rfl) (fun wv hS => by obtain ⟨s0, s1, s2, s3, s4, s5, s6⟩ := hS; go_simp; try with_reducible rfl) ?_)
          try simp only [Act.put, List.getElem_toArray, List.getElem_cons_succ, List.getElem_cons_zero, List.setIfInBounds_toArray, List.set_cons_zero, List.set_cons_succ]
          first | (refine Wk.skip (m := 3) (k := 20) rfl (by rfl) ?_) | (refine Wk.step (m := 3) (k := 20) (v := _) rfl (by rfl) (fun wv hS => by obtain ⟨s0, s1, s2, s3, s4, s5, s6⟩ := hS; go_simp; try with_reducible rfl) ?_)
          try simp only [Act.put, List.getElem_toArray, List.getElem_cons_succ, List.getElem_cons_zero, List.setIfInBounds_toArray, List.set_cons_zero, List.set_cons_succ]
          first | (refine Wk.skip (m := 2) (k := 21) rfl (by rfl) ?_) | (refine Wk.step (m := 2) (k := 21) (v := _) rfl (by rfl) (fun wv hS => by obtain ⟨s0, s1, s2, s3, s4, s5, s6⟩ := hS; go_simp; try with_reducible rfl) ?_)
          try simp only [Act.put, List.getElem_toArray, List.getElem_cons_succ, List.getElem_cons_zero, List.setIfInBounds_toArray, List.set_cons_zero, List.set_cons_succ]
          refine Wk.call (m := 1) (k := 22) (v := .bool true) _ _ rfl (by rfl) (fun wv hS => by obtain ⟨s0, s1, s2, s3, s4, s5, s6⟩ := hS; go_simp; first | done | exact ⟨rfl, rfl⟩ | with_reducible rfl) (fun wv hS => ?_) ?_; · obtain ⟨s0, s1, s2, s3, s4, s5, s6⟩ := hS; refine (specHasBc x.ing x.ts x.beta _ a3 k c n3 c3 B' B' (zs.take k) x.hops wv (hPre.mk s0 hBr (.inr (Nat.le_refl _))) (hr.mk s0 hBr (.inr (Nat.le_refl _))) (Nat.le_trans hBr s0.size) (Nat.le_trans hBr s0.size) hPs hbd).mono ?_; rintro e w' ⟨he, mm⟩; exact ⟨by rw [he, anyB_take _ _ _ _ (Nat.le_refl _), ← hha.out], ⟨s0.trans mm, mm.cellAt s1, mm.cellAt s2, mm.cellAt s3, mm.cellAt s4, mm.cellAt s5, mm.cellAt s6⟩⟩
          try simp only [Act.put, List.getElem_toArray, List.getElem_cons_succ, List.getElem_cons_zero, List.setIfInBounds_toArray, List.set_cons_zero, List.set_cons_succ]
          first | (refine Wk.skip (m := 0) (k := 23) rfl (by rfl) ?_) | (refine Wk.step (m := 0) (k := 23) (v := _) rfl (by rfl) (fun wv hS => by obtain ⟨s0, s1, s2, s3, s4, s5, s6⟩ := hS; go_simp; try with_reducible rfl) ?_)
          try simp only [Act.put, List.getElem_toArray, List.getElem_cons_succ, List.getElem_cons_zero, List.setIfInBounds_toArray, List.set_cons_zero, List.set_cons_succ]
          refine Wk.done fun wE hE => ?_
          clear k0 k1 d0 d1 d2 d3
          obtain ⟨mE, k0, k1, d0, d1, d2, d3⟩ := hE
          go_wp2_with fail
          go_ret
          exact ⟨retB (by rw [HR.out, HE.out, Bool.and_false]), hMW.trans (mE)⟩
    · obtain rfl : k = n := by omega
      by_cases h12 : k ≤ 12
      · have e12 : decide ((k : Int) ≤ 12) = true := by simp; omega
        have e12' : decide (k ≤ 12) = true := by simp; omega
        have HF := Lib.hid e12'
        clear h12
        go_wp2_with fail
        go_ret
        exact ⟨retB (by first | (rw [HR.out, HF.out, hAll.out]; done) | (rw [HR.out, HF.out, hAll.out]; first | rfl | exact e12 | exact e12')), hMW⟩
      · have e12 : decide ((k : Int) ≤ 12) = false := by simp; omega
        have e12' : decide (k ≤ 12) = false := by simp; omega
        have HF := Lib.hid e12'
        clear h12
        go_wp2_with fail
        go_ret
        exact ⟨retB (by first | (rw [HR.out, HF.out, hAll.out]; done) | (rw [HR.out, HF.out, hAll.out]; first | rfl | exact e12 | exact e12')), hMW⟩

set_option maxRecDepth 100000 in
set_option maxHeartbeats 16000000 in
theorem implVStore (a0 a1 : Option Addr) (n0 c0 n1 c1 B : Nat) (zA : List TAS) (zl : List TLink) (r : Int) (a : Option Addr) (n c B' : Nat) (zs : List TBeacon) (w : World) (hA : HasAS w B a0 n0 zA) (hl : HasLink w B a1 n1 zl) (hB : B ≤ w.heap.size) (hn0 : n0 ≤ 1048576) (hn1 : n1 ≤ 1048576) (h : HasBeacon w B' a n zs) (hB' : B' ≤ w.heap.size) (hs : szBeacon zs n ≤ 1048576) (hnc : n ≤ c) (hz : ∀ y ∈ zA, TAS.fits y) (hf : ∀ y ∈ zs, TBeacon.fits y) (hg : w.cell? ⟨0, 0, none⟩ = some (.iface 142 (.agg #[.pointer (some ⟨1, 117, none⟩)]))) :
    Calls Tryz.prog 16 #[.agg #[.slice a0 n0 c0, .slice a1 n1 c1], .int .i64 r, .slice a n c] w fun e w' => e = .returned (.bool (stB n0 zA zl n1 r zs n)) ∧ Mk0 w w' := by
  have M0 : Mk0 w (w.alloc (Obj.cells #[Value.slice a0 n0 c0, Value.slice a1 n1 c1] 35)) := (Mk.alloc w (Obj.cells #[Value.slice a0 n0 c0, Value.slice a1 n1 c1] 35))
  have k0 : (w.alloc (Obj.cells #[Value.slice a0 n0 c0, Value.slice a1 n1 c1] 35)).cell? ⟨w.heap.size, 0, none⟩ = some (.slice a0 n0 c0) := by simp [go_sem]
  have k1 : (w.alloc (Obj.cells #[Value.slice a0 n0 c0, Value.slice a1 n1 c1] 35)).cell? ⟨w.heap.size, 1, none⟩ = some (.slice a1 n1 c1) := by simp [go_sem]
  have hs0 : (w.alloc (Obj.cells #[Value.slice a0 n0 c0, Value.slice a1 n1 c1] 35)).heap.size = w.heap.size + 1 := by simp only [World.size_alloc]
  have hn := Nat.le_trans (szBeacon_n zs n) hs
  obtain ⟨FF, hFF⟩ : ∃ F, Hid (F = (fun i => okSt n0 zA zl n1 r zs (zs.getD i default) i)) := ⟨_, Lib.hid rfl⟩
  have HR : Hid (stB n0 zA zl n1 r zs n = (decide (n ≤ 12) && allK FF n)) := Lib.hid (by rw [hFF.out]; rfl)
  have K0 := Lib.hid k0
  have K1 := Lib.hid k1
  by_cases h12 : 12 < n
  · have e12 : decide ((12 : Int) < (n : Int)) = true := by simp; omega
    have e12' : decide (12 < n) = true := by simp; omega
    have HF : Hid (decide (n ≤ 12) = false) := Lib.hid (by simp; omega)
    clear h12
    go_enter Tryz.func16, Tryz.ntmps16
    go_wp2_with fail
    go_ret
    exact ⟨retB (by rw [HR.out, HF.out]; rfl), M0⟩
  · have e12 : decide ((12 : Int) < (n : Int)) = false := by simp; omega
    have e12' : decide (12 < n) = false := by simp; omega
    have HF : Hid (decide (n ≤ 12) = true) := Lib.hid (by simp; omega)
    clear h12
    go_enter Tryz.func16, Tryz.ntmps16
    go_wp2_with fail
    clear k0 k1
    generalize (w.alloc (Obj.cells #[Value.slice a0 n0 c0, Value.slice a1 n1 c1] 35)) = wb at *
    go_loopw [6, 14] (fun q i wr => q = .bool false ∧ ∃ k : Nat, k ≤ n ∧ i = .int .i64 (k : Int) ∧ Hid (allK FF k = true) ∧ Mk0 wb wr) (fun _ i _ => n - (intOf i).toNat)
    case atStart => exact ⟨rfl, 0, Nat.zero_le _, rfl, Lib.hid rfl, Mk.refl _ _ _⟩
    case round =>
      obtain ⟨rfl, k, hk, rfl, hAll, hM⟩ := hrel
      have hMW := M0.trans hM
      have k0 := hM.cellAt K0.out
      have k1 := hM.cellAt K1.out
      by_cases hlt : k < n
      · obtain ⟨b, off, x, rfl, hb, hx, a3, n3, c3, d0, d1, d2, d3, hr, p1, p2, p3⟩ := HasBeacon.at _ _ _ _ _ _ (h.mk hMW hB' (.inr (Nat.le_refl _))) hlt
        have hbd : n3 ≤ 1048576 := by have h1 := szBeacon_at zs hlt; rw [← hx.out] at h1; unfold seBeacon at h1; have h2 : x.hops.length = n3 := hr.1; omega
        have hn3 := hr.1
        have hbr := World.block_lt_of_cell? _ _ d0
        simp only at hbr
        have i1 : (0 : Int) ≤ (k : Int) := by omega
        have i2 : (k : Int) < (n : Int) := by omega
        have i3 : (k : Int) ≤ (c : Int) := by omega
        have i4 : k ≤ c := by omega
        have hBr := Nat.le_trans hB' hMW.size
        have hBt := Nat.le_trans hB hMW.size
        have hA' := hA.mk hMW hB (.inr (Nat.le_refl _))
        have hl' := hl.mk hMW hB (.inr (Nat.le_refl _))
        have hfx : TBeacon.fits x := by rw [hx.out, List.getD_eq_getElem?_getD, List.getElem?_eq_getElem (by rw [h.1]; exact hlt)]; exact hf _ (List.getElem_mem _)
        have hPre := hasBeacon_take (h.mk hMW hB' (.inr (Nat.le_refl _))) hk
        have hPs := Nat.le_trans (szBeacon_take (zs := zs) hk) hs
        obtain ⟨ce, hce⟩ : ∃ v, v = ceB n0 zA zl n1 x.ts x.beta x.hops n3 r x.ing := ⟨_, rfl⟩
        obtain ⟨ha, hha⟩ : ∃ v, v = anyB (fun y => eqBcV y.ing y.ts y.beta x.ing x.ts x.beta y.hops x.hops y.hops.length n3) zs k := ⟨_, rfl⟩
        have HFk := Lib.hid (show FF k = (ce && !ha) by rw [hFF.out, hce, hha]; show okSt n0 zA zl n1 r zs (zs.getD k default) k = _; rw [← hx.out]; unfold okSt; rw [hn3])
        have HG := hMW.cellAt hg
        have MX := Mk.alloc wr (Obj.cells #[Value.int .i64 x.ing, Value.int .i64 x.ts, Value.int .i64 x.beta, Value.slice a3 n3 c3] 79)
        have e0 : (wr.alloc (Obj.cells #[Value.int .i64 x.ing, Value.int .i64 x.ts, Value.int .i64 x.beta, Value.slice a3 n3 c3] 79)).cell? ⟨wr.heap.size, 0, none⟩ = some (.int .i64 x.ing) := by simp [go_sem]
        have e1 : (wr.alloc (Obj.cells #[Value.int .i64 x.ing, Value.int .i64 x.ts, Value.int .i64 x.beta, Value.slice a3 n3 c3] 79)).cell? ⟨wr.heap.size, 1, none⟩ = some (.int .i64 x.ts) := by simp [go_sem]
        have e2 : (wr.alloc (Obj.cells #[Value.int .i64 x.ing, Value.int .i64 x.ts, Value.int .i64 x.beta, Value.slice a3 n3 c3] 79)).cell? ⟨wr.heap.size, 2, none⟩ = some (.int .i64 x.beta) := by simp [go_sem]
        have e3 : (wr.alloc (Obj.cells #[Value.int .i64 x.ing, Value.int .i64 x.ts, Value.int .i64 x.beta, Value.slice a3 n3 c3] 79)).cell? ⟨wr.heap.size, 3, none⟩ = some (.slice a3 n3 c3) := by simp [go_sem]
        replace k0 := MX.cellAt k0
        replace k1 := MX.cellAt k1
        replace hA' := hA'.mk MX hBt (.inr (Nat.le_refl _))
        replace hl' := hl'.mk MX hBt (.inr (Nat.le_refl _))
        replace hBt := Nat.le_trans hBt MX.size
        replace hr := hr.mk MX hBr (.inr (Nat.le_refl _))
        replace hPre := hPre.mk MX hBr (.inr (Nat.le_refl _))
        replace hBr := Nat.le_trans hBr MX.size
        replace HG := MX.cellAt HG
        have hM2 := hM.trans MX
        replace hce := Lib.hid hce
        replace hha := Lib.hid hha
        cases ce
        · have HE := Lib.hid (show allK FF n = false from allK_stop HFk.out n hlt)
          go_wp2_with fail
          refine wp_region_wk (fun w' => Mk0 (wr.alloc (Obj.cells #[Value.int .i64 x.ing, Value.int .i64 x.ts, Value.int .i64 x.beta, Value.slice a3 n3 c3] 79)) w' ∧ w'.cell? ⟨w.heap.size, 0, none⟩ = some (.slice a0 n0 c0) ∧ w'.cell? ⟨w.heap.size, 1, none⟩ = some (.slice a1 n1 c1) ∧ w'.cell? ⟨wr.heap.size, 0, none⟩ = some (.int .i64 x.ing) ∧ w'.cell? ⟨wr.heap.size, 1, none⟩ = some (.int .i64 x.ts) ∧ w'.cell? ⟨wr.heap.size, 2, none⟩ = some (.int .i64 x.beta) ∧ w'.cell? ⟨wr.heap.size, 3, none⟩ = some (.slice a3 n3 c3) ∧ w'.cell? ⟨0, 0, none⟩ = some (.iface 142 (.agg #[.pointer (some ⟨1, 117, none⟩)]))) (by kernel_rfl) (by kernel_rfl) (⟨Mk.drew1 _, k0, k1, e0, e1, e2, e3, HG⟩) ?_
          change Wk _ _ _ _ 15 0 _
          first | (refine Wk.skip (m := 14) (k := 0) rfl (by rfl) ?_) | (refine Wk.step (m := 14) (k := 0) (v := _) rfl (by rfl) (fun wv hS => by obtain ⟨s0, s1, s2, s3, s4, s5, s6, s7⟩ := hS; go_simp; try with_reducible rfl) ?_)
          try simp only [Act.put, List.getElem_toArray, List.getElem_cons_zero, List.setIfInBounds_toArray, List.set_cons_zero, List.set_cons_succ]
          first | (refine Wk.skip (m := 13) (k := 1) rfl (by rfl) ?_) | (refine Wk.step (m := 13) (k := 1) (v := _) rfl (by rfl) (fun wv hS => by obtain ⟨s0, s1, s2, s3, s4, s5, s6, s7⟩ := hS; go_simp; try with_reducible rfl) ?_)
          try simp only [Act.put, List.getElem_toArray, List.getElem_cons_succ, List.getElem_cons_zero, List.setIfInBounds_toArray, List.set_cons_zero, List.set_cons_succ]
          first | (refine Wk.skip (m := 12) (k := 2) rfl (by rfl) ?_) | (refine Wk.step (m := 12) (k := 2) (v := _) rfl (by rfl) (fun wv hS => by obtain ⟨s0, s1, s2, s3, s4, s5, s6, s7⟩ := hS; go_simp; try with_reducible rfl) ?_)
          try simp only [Act.put, List.getElem_toArray, List.getElem_cons_succ, List.getElem_cons_zero, List.setIfInBounds_toArray, List.set_cons_zero, List.set_cons_succ]
          first | (refine Wk.skip (m := 11) (k := 3) rfl (by rfl) ?_) | (refine Wk.step (m := 11) (k := 3) (v := _) rfl (by rfl) (fun wv hS => by obtain ⟨s0, s1, s2, s3, s4, s5, s6, s7⟩ := hS; go_simp; try with_reducible rfl) ?_)
          try simp only [Act.put, List.getElem_toArray, List.getElem_cons_succ, List.getElem_cons_zero, List.setIfInBounds_toArray, List.set_cons_zero, List.set_cons_succ]
          first | (refine Wk.skip (m := 10) (k := 4) rfl (by rfl) ?_) | (refine Wk.step (m := 10) (k := 4) (v := _) rfl (by rfl) (fun wv hS => by obtain ⟨s0, s1, s2, s3, s4, s5, s6, s7⟩ := hS; go_simp; try with_reducible rfl) ?_)
          try simp only [Act.put, List.getElem_toArray, List.getElem_cons_succ, List.getElem_cons_zero, List.setIfInBounds_toArray, List.set_cons_zero, List.set_cons_succ]
          first | (refine Wk.skip (m := 9) (k := 5) rfl (by rfl) ?_) | (refine Wk.step (m := 9) (k := 5) (v := _) rfl (by rfl) (fun wv hS => by obtain ⟨s0, s1, s2, s3, s4, s5, s6, s7⟩ := hS; go_simp; try with_reducible rfl) ?_)
          try simp only [Act.put, List.getElem_toArray, List.getElem_cons_succ, List.getElem_cons_zero, List.setIfInBounds_toArray, List.set_cons_zero, List.set_cons_succ]
          refine Wk.call (m := 8) (k := 6) (v := .bool false) _ _ rfl (by rfl) (fun wv hS => by obtain ⟨s0, s1, s2, s3, s4, s5, s6, s7⟩ := hS; go_simp; first | done | exact ⟨rfl, rfl⟩ | with_reducible rfl) (fun wv hS => ?_) ?_; · obtain ⟨s0, s1, s2, s3, s4, s5, s6, s7⟩ := hS; refine (implCExt a0 a1 n0 c0 n1 c1 B zA zl x.ts x.beta a3 n3 c3 B' x.hops r x.ing wv (hA'.mk s0 hBt (.inr (Nat.le_refl _))) (hl'.mk s0 hBt (.inr (Nat.le_refl _))) (Nat.le_trans hBt s0.size) hn0 hn1 (hr.mk s0 hBr (.inr (Nat.le_refl _))) (Nat.le_trans hBr s0.size) hbd hz hfx.2.1 hfx.2.2.1 hfx.2.2.2 s7).mono ?_; rintro e w' ⟨he, mm⟩; exact ⟨by rw [he, ← hce.out], ⟨s0.trans mm, mm.cellAt s1, mm.cellAt s2, mm.cellAt s3, mm.cellAt s4, mm.cellAt s5, mm.cellAt s6, mm.cellAt s7⟩⟩
          try simp only [Act.put, List.getElem_toArray, List.getElem_cons_succ, List.getElem_cons_zero, List.setIfInBounds_toArray, List.set_cons_zero, List.set_cons_succ]
          first | (refine Wk.skip (m := 7) (k := 7) rfl (by rfl) ?_) | (refine Wk.step (m := 7) (k := 7) (v := _) rfl (by rfl) (fun wv hS => by obtain ⟨s0, s1, s2, s3, s4, s5, s6, s7⟩ := hS; go_simp; try with_reducible rfl) ?_)
          try simp only [Act.put, List.getElem_toArray, List.getElem_cons_succ, List.getElem_cons_zero, List.setIfInBounds_toArray, List.set_cons_zero, List.set_cons_succ]
          first | (refine Wk.skip (m := 6) (k := 8) rfl (by rfl) ?_) | (refine Wk.step (m := 6) (k := 8) (v := _) rfl (by rfl) (fun wv hS => by obtain ⟨s0, s1, s2, s3, s4, s5, s6, s7⟩ := hS; go_simp; try with_reducible rfl) ?_)
          try simp only [Act.put, List.getElem_toArray, List.getElem_cons_succ, List.getElem_cons_zero, List.setIfInBounds_toArray, List.set_cons_zero, List.set_cons_succ]
          first | (refine Wk.skip (m := 5) (k := 9) rfl (by rfl) ?_) | (refine Wk.step (m := 5) (k := 9) (v := _) rfl (by rfl) (fun wv hS => by obtain ⟨s0, s1, s2, s3, s4, s5, s6, s7⟩ := hS; go_simp; try with_reducible rfl) ?_)
          try simp only [Act.put, List.getElem_toArray, List.getElem_cons_succ, List.getElem_cons_zero, List.setIfInBounds_toArray, List.set_cons_zero, List.set_cons_succ]
          first | (refine Wk.skip (m := 4) (k := 10) rfl (by rfl) ?_) | (refine Wk.step (m := 4) (k := 10) (v := _) rfl (by rfl) (fun wv hS => by obtain ⟨s0, s1, s2, s3, s4, s5, s6, s7⟩ := hS; go_simp; try with_reducible rfl) ?_)
          try simp only [Act.put, List.getElem_toArray, List.getElem_cons_succ, List.getElem_cons_zero, List.setIfInBounds_toArray, List.set_cons_zero, List.set_cons_succ]
          first | (refine Wk.skip (m := 3) (k := 11) rfl (by rfl) ?_) | (refine Wk.step (m := 3) (k := 11) (v := _) rfl (by rfl) (fun wv hS => by obtain ⟨s0, s1, s2, s3, s4, s5, s6, s7⟩ := hS; go_simp; try with_reducible rfl) ?_)
          try simp only [Act.put, List.getElem_toArray, List.getElem_cons_succ, List.getElem_cons_zero, List.setIfInBounds_toArray, List.set_cons_zero, List.set_cons_succ]
          first | (refine Wk.skip (m := 2) (k := 12) rfl (by rfl) ?_) | (refine Wk.step (m := 2) (k := 12) (v := _) rfl (by rfl) (fun wv hS => by obtain ⟨s0, s1, s2, s3, s4, s5, s6, s7⟩ := hS; go_simp; try with_reducible rfl) ?_)
          try simp only [Act.put, List.getElem_toArray, List.getElem_cons_succ, List.getElem_cons_zero, List.setIfInBounds_toArray, List.set_cons_zero, List.set_cons_succ]
          refine Wk.skip (m := 1) (k := 13) rfl (by rfl) ?_
          try simp only [Act.put, List.getElem_toArray, List.getElem_cons_succ, List.getElem_cons_zero, List.setIfInBounds_toArray, List.set_cons_zero, List.set_cons_succ]
          first | (refine Wk.skip (m := 0) (k := 14) rfl (by rfl) ?_) | (refine Wk.step (m := 0) (k := 14) (v := _) rfl (by rfl) (fun wv hS => by obtain ⟨s0, s1, s2, s3, s4, s5, s6, s7⟩ := hS; go_simp; try with_reducible rfl) ?_)
          try simp only [Act.put, List.getElem_toArray, List.getElem_cons_succ, List.getElem_cons_zero, List.setIfInBounds_toArray, List.set_cons_zero, List.set_cons_succ]
          refine Wk.done fun wE hE => ?_
          clear k0 k1 e0 e1 e2 e3 HG
          obtain ⟨mE, k0, k1, e0, e1, e2, e3, HG⟩ := hE
          go_wp2_with fail
          go_ret
          exact ⟨retB (by rw [HR.out, HE.out, Bool.and_false]), hMW.trans (MX.trans mE)⟩
        · cases ha
          · have HE := Lib.hid (show allK FF (k + 1) = true from allK_go hAll.out HFk.out)
            go_wp2_with fail
            refine wp_region_wk (fun w' => Mk0 (wr.alloc (Obj.cells #[Value.int .i64 x.ing, Value.int .i64 x.ts, Value.int .i64 x.beta, Value.slice a3 n3 c3] 79)) w' ∧ w'.cell? ⟨w.heap.size, 0, none⟩ = some (.slice a0 n0 c0) ∧ w'.cell? ⟨w.heap.size, 1, none⟩ = some (.slice a1 n1 c1) ∧ w'.cell? ⟨wr.heap.size, 0, none⟩ = some (.int .i64 x.ing) ∧ w'.cell? ⟨wr.heap.size, 1, none⟩ = some (.int .i64 x.ts) ∧ w'.cell? ⟨wr.heap.size, 2, none⟩ = some (.int .i64 x.beta) ∧ w'.cell? ⟨wr.heap.size, 3, none⟩ = some (.slice a3 n3 c3) ∧ w'.cell? ⟨0, 0, none⟩ = some (.iface 142 (.agg #[.pointer (some ⟨1, 117, none⟩)]))) (by kernel_rfl) (by kernel_rfl) (⟨Mk.drew1 _, k0, k1, e0, e1, e2, e3, HG⟩) ?_
            change Wk _ _ _ _ 15 0 _
            first | (refine Wk.skip (m := 14) (k := 0) rfl (by rfl) ?_) | (refine Wk.step (m := 14) (k := 0) (v := _) rfl (by rfl) (fun wv hS => by obtain ⟨s0, s1, s2, s3, s4, s5, s6, s7⟩ := hS; go_simp; try with_reducible rfl) ?_)
            try simp only [Act.put, List.getElem_toArray, List.getElem_cons_zero, List.setIfInBounds_toArray, List.set_cons_zero, List.set_cons_succ]
            first | (refine Wk.skip (m := 13) (k := 1) rfl (by rfl) ?_) | (refine Wk.step (m := 13) (k := 1) (v := _) rfl (by rfl) (fun wv hS => by obtain ⟨s0, s1, s2, s3, s4, s5, s6, s7⟩ := hS; go_simp; try with_reducible rfl) ?_)
            try simp only [Act.put, List.getElem_toArray, List.getElem_cons_succ, List.getElem_cons_zero, List.setIfInBounds_toArray, List.set_cons_zero, List.set_cons_succ]
            first | (refine Wk.skip (m := 12) (k := 2) rfl (by rfl) ?_) | (refine Wk.step (m := 12) (k := 2) (v := _) rfl (by rfl) (fun wv hS => by obtain ⟨s0, s1, s2, s3, s4, s5, s6, s7⟩ := hS; go_simp; try with_reducible rfl) ?_)
            try simp only [Act.put, List.getElem_toArray, List.getElem_cons_succ, List.getElem_cons_zero, List.setIfInBounds_toArray, List.set_cons_zero, List.set_cons_succ]
            first | (refine Wk.skip (m := 11) (k := 3) rfl (by rfl) ?_) | (refine Wk.step (m := 11) (k := 3) (v := _) rfl (by rfl) (fun wv hS => by obtain ⟨s0, s1, s2, s3, s4, s5, s6, s7⟩ := hS; go_simp; try with_reducible rfl) ?_)
            try simp only [Act.put, List.getElem_toArray, List.getElem_cons_succ, List.getElem_cons_zero, List.setIfInBounds_toArray, List.set_cons_zero, List.set_cons_succ]
            first | (refine Wk.skip (m := 10) (k := 4) rfl (by rfl) ?_) | (refine Wk.step (m := 10) (k := 4) (v := _) rfl (by rfl) (fun wv hS => by obtain ⟨s0, s1, s2, s3, s4, s5, s6, s7⟩ := hS; go_simp; try with_reducible rfl) ?_)
            try simp only [Act.put, List.getElem_toArray, List.getElem_cons_succ, List.getElem_cons_zero, List.setIfInBounds_toArray, List.set_cons_zero, List.set_cons_succ]
            first | (refine Wk.skip (m := 9) (k := 5) rfl (by rfl) ?_) | (refine Wk.step (m := 9) (k := 5) (v := _) rfl (by rfl) (fun wv hS => by obtain ⟨s0, s1, s2, s3, s4, s5, s6, s7⟩ := hS; go_simp; try with_reducible rfl) ?_)
            try simp only [Act.put, List.getElem_toArray, List.getElem_cons_succ, List.getElem_cons_zero, List.setIfInBounds_toArray, List.set_cons_zero, List.set_cons_succ]
            refine Wk.call (m := 8) (k := 6) (v := .bool true) _ _ rfl (by rfl) (fun wv hS => by obtain ⟨s0, s1, s2, s3, s4, s5, s6, s7⟩ := hS; go_simp; first | done | exact ⟨rfl, rfl⟩ | with_reducible rfl) (fun wv hS => ?_) ?_; · obtain ⟨s0, s1, s2, s3, s4, s5, s6, s7⟩ := hS; refine (implCExt a0 a1 n0 c0 n1 c1 B zA zl x.ts x.beta a3 n3 c3 B' x.hops r x.ing wv (hA'.mk s0 hBt (.inr (Nat.le_refl _))) (hl'.mk s0 hBt (.inr (Nat.le_refl _))) (Nat.le_trans hBt s0.size) hn0 hn1 (hr.mk s0 hBr (.inr (Nat.le_refl _))) (Nat.le_trans hBr s0.size) hbd hz hfx.2.1 hfx.2.2.1 hfx.2.2.2 s7).mono ?_; rintro e w' ⟨he, mm⟩; exact ⟨by rw [he, ← hce.out], ⟨s0.trans mm, mm.cellAt s1, mm.cellAt s2, mm.cellAt s3, mm.cellAt s4, mm.cellAt s5, mm.cellAt s6, mm.cellAt s7⟩⟩
            try simp only [Act.put, List.getElem_toArray, List.getElem_cons_succ, List.getElem_cons_zero, List.setIfInBounds_toArray, List.set_cons_zero, List.set_cons_succ]
            first | (refine Wk.skip (m := 7) (k := 7) rfl (by rfl) ?_) | (refine Wk.step (m := 7) (k := 7) (v := _) rfl (by rfl) (fun wv hS => by obtain ⟨s0, s1, s2, s3, s4, s5, s6, s7⟩ := hS; go_simp; try with_reducible rfl) ?_)
            try simp only [Act.put, List.getElem_toArray, List.getElem_cons_succ, List.getElem_cons_zero, List.setIfInBounds_toArray, List.set_cons_zero, List.set_cons_succ]
            first | (refine Wk.skip (m := 6) (k := 8) rfl (by rfl) ?_) | (refine Wk.step (m := 6) (k := 8) (v := _) rfl (by rfl) (fun wv hS => by obtain ⟨s0, s1, s2, s3, s4, s5, s6, s7⟩ := hS; go_simp; try with_reducible rfl) ?_)
            try simp only [Act.put, List.getElem_toArray, List.getElem_cons_succ, List.getElem_cons_zero, List.setIfInBounds_toArray, List.set_cons_zero, List.set_cons_succ]
            first | (refine Wk.skip (m := 5) (k := 9) rfl (by rfl) ?_) | (refine Wk.step (m := 5) (k := 9) (v := _) rfl (by rfl) (fun wv hS => by obtain ⟨s0, s1, s2, s3, s4, s5, s6, s7⟩ := hS; go_simp; try with_reducible rfl) ?_)
            try simp only [Act.put, List.getElem_toArray, List.getElem_cons_succ, List.getElem_cons_zero, List.setIfInBounds_toArray, List.set_cons_zero, List.set_cons_succ]
            first | (refine Wk.skip (m := 4) (k := 10) rfl (by rfl) ?_) | (refine Wk.step (m := 4) (k := 10) (v := _) rfl (by rfl) (fun wv hS => by obtain ⟨s0, s1, s2, s3, s4, s5, s6, s7⟩ := hS; go_simp; try with_reducible rfl) ?_)
            try simp only [Act.put, List.getElem_toArray, List.getElem_cons_succ, List.getElem_cons_zero, List.setIfInBounds_toArray, List.set_cons_zero, List.set_cons_succ]
            first | (refine Wk.skip (m := 3) (k := 11) rfl (by rfl) ?_) | (refine Wk.step (m := 3) (k := 11) (v := _) rfl (by rfl) (fun wv hS => by obtain ⟨s0, s1, s2, s3, s4, s5, s6, s7⟩ := hS; go_simp; try with_reducible rfl) ?_)
            try simp only [Act.put, List.getElem_toArray, List.getElem_cons_succ, List.getElem_cons_zero, List.setIfInBounds_toArray, List.set_cons_zero, List.set_cons_succ]
            first | (refine Wk.skip (m := 2) (k := 12) rfl (by rfl) ?_) | (refine Wk.step (m := 2) (k := 12) (v := _) rfl (by rfl) (fun wv hS => by obtain ⟨s0, s1, s2, s3, s4, s5, s6, s7⟩ := hS; go_simp; try with_reducible rfl) ?_)
            try simp only [Act.put, List.getElem_toArray, List.getElem_cons_succ, List.getElem_cons_zero, List.setIfInBounds_toArray, List.set_cons_zero, List.set_cons_succ]
            refine Wk.call (m := 1) (k := 13) (v := .bool false) _ _ rfl (by rfl) (fun wv hS => by obtain ⟨s0, s1, s2, s3, s4, s5, s6, s7⟩ := hS; go_simp; first | done | exact ⟨rfl, rfl⟩ | with_reducible rfl) (fun wv hS => ?_) ?_; · obtain ⟨s0, s1, s2, s3, s4, s5, s6, s7⟩ := hS; refine (implHasBc x.ing x.ts x.beta _ a3 k c n3 c3 B' B' (zs.take k) x.hops wv (hPre.mk s0 hBr (.inr (Nat.le_refl _))) (hr.mk s0 hBr (.inr (Nat.le_refl _))) (Nat.le_trans hBr s0.size) (Nat.le_trans hBr s0.size) hPs hbd).mono ?_; rintro e w' ⟨he, mm⟩; exact ⟨by rw [he, anyB_take _ _ _ _ (Nat.le_refl _), ← hha.out], ⟨s0.trans mm, mm.cellAt s1, mm.cellAt s2, mm.cellAt s3, mm.cellAt s4, mm.cellAt s5, mm.cellAt s6, mm.cellAt s7⟩⟩
            try simp only [Act.put, List.getElem_toArray, List.getElem_cons_succ, List.getElem_cons_zero, List.setIfInBounds_toArray, List.set_cons_zero, List.set_cons_succ]
            first | (refine Wk.skip (m := 0) (k := 14) rfl (by rfl) ?_) | (refine Wk.step (m := 0) (k := 14) (v := _) rfl (by rfl) (fun wv hS => by obtain ⟨s0, s1, s2, s3, s4, s5, s6, s7⟩ := hS; go_simp; try with_reducible rfl) ?_)
            try simp only [Act.put, List.getElem_toArray, List.getElem_cons_succ, List.getElem_cons_zero, List.setIfInBounds_toArray, List.set_cons_zero, List.set_cons_succ]
            refine Wk.done fun wE hE => ?_
            clear k0 k1 e0 e1 e2 e3 HG
            obtain ⟨mE, k0, k1, e0, e1, e2, e3, HG⟩ := hE
            go_wp2_with fail
            go_roundw
            case rel => exact ⟨rfl, k + 1, by omega, by go_num, HE, hM2.trans mE⟩
            case measure => simp [intOf]; omega
          · have HE := Lib.hid (show allK FF n = false from allK_stop HFk.out n hlt)
            go_wp2_with fail
            refine wp_region_wk (fun w' => Mk0 (wr.alloc (Obj.cells #[Value.int .i64 x.ing, Value.int .i64 x.ts, Value.int .i64 x.beta, Value.slice a3 n3 c3] 79)) w' ∧ w'.cell? ⟨w.heap.size, 0, none⟩ = some (.slice a0 n0 c0) ∧ w'.cell? ⟨w.heap.size, 1, none⟩ = some (.slice a1 n1 c1) ∧ w'.cell? ⟨wr.heap.size, 0, none⟩ = some (.int .i64 x.ing) ∧ w'.cell? ⟨wr.heap.size, 1, none⟩ = some (.int .i64 x.ts) ∧ w'.cell? ⟨wr.heap.size, 2, none⟩ = some (.int .i64 x.beta) ∧ w'.cell? ⟨wr.heap.size, 3, none⟩ = some (.slice a3 n3 c3) ∧ w'.cell? ⟨0, 0, none⟩ = some (.iface 142 (.agg #[.pointer (some ⟨1, 117, none⟩)]))) (by kernel_rfl) (by kernel_rfl) (⟨Mk.drew1 _, k0, k1, e0, e1, e2, e3, HG⟩) ?_
            change Wk _ _ _ _ 15 0 _
            first | (refine Wk.skip (m := 14) (k := 0) rfl (by rfl) ?_) | (refine Wk.step (m := 14) (k := 0) (v := _) rfl (by rfl) (fun wv hS => by obtain ⟨s0, s1, s2, s3, s4, s5, s6, s7⟩ := hS; go_simp; try with_reducible rfl) ?_)
            try simp only [Act.put, List.getElem_toArray, List.getElem_cons_zero, List.setIfInBounds_toArray, List.set_cons_zero, List.set_cons_succ]
            first | (refine Wk.skip (m := 13) (k := 1) rfl (by rfl) ?_) | (refine Wk.step (m := 13) (k := 1) (v := _) rfl (by rfl) (fun wv hS => by obtain ⟨s0, s1, s2, s3, s4, s5, s6, s7⟩ := hS; go_simp; try with_reducible rfl) ?_)
            try simp only [Act.put, List.getElem_toArray, List.getElem_cons_succ, List.getElem_cons_zero, List.setIfInBounds_toArray, List.set_cons_zero, List.set_cons_succ]
            first | (refine Wk.skip (m := 12) (k := 2) rfl (by rfl) ?_) | (refine Wk.step (m := 12) (k := 2) (v := _) rfl (by rfl) (fun wv hS => by obtain ⟨s0, s1, s2, s3, s4, s5, s6, s7⟩ := hS; go_simp; try with_reducible rfl) ?_)
            try simp only [Act.put, List.getElem_toArray, List.getElem_cons_succ, List.getElem_cons_zero, List.setIfInBounds_toArray, List.set_cons_zero, List.set_cons_succ]
            first | (refine Wk.skip (m := 11) (k := 3) rfl (by rfl) ?_) | (refine Wk.step (m := 11) (k := 3) (v := _) rfl (by rfl) (fun wv hS => by obtain ⟨s0, s1, s2, s3, s4, s5, s6, s7⟩ := hS; go_simp; try with_reducible rfl) ?_)
            try simp only [Act.put, List.getElem_toArray, List.getElem_cons_succ, List.getElem_cons_zero, List.setIfInBounds_toArray, List.set_cons_zero, List.set_cons_succ]
            first | (refine Wk.skip (m := 10) (k := 4) rfl (by rfl) ?_) | (refine Wk.step (m := 10) (k := 4) (v := _) rfl (by rfl) (fun wv hS => by obtain ⟨s0, s1, s2, s3, s4, s5, s6, s7⟩ := hS; go_simp; try with_reducible rfl) ?_)
            try simp only [Act.put, List.getElem_toArray, List.getElem_cons_succ, List.getElem_cons_zero, List.setIfInBounds_toArray, List.set_cons_zero, List.set_cons_succ]
            first | (refine Wk.skip (m := 9) (k := 5) rfl (by rfl) ?_) | (refine Wk.step (m := 9) (k := 5) (v := _) rfl (by rfl) (fun wv hS => by obtain ⟨s0, s1, s2, s3, s4, s5, s6, s7⟩ := hS; go_simp; try with_reducible rfl) ?_)
            try simp only [Act.put, List.getElem_toArray, List.getElem_cons_succ, List.getElem_cons_zero, List.setIfInBounds_toArray, List.set_cons_zero, List.set_cons_succ]
            refine Wk.call (m := 8) (k := 6) (v := .bool true) _ _ rfl (by rfl) (fun wv hS => by obtain ⟨s0, s1, s2, s3, s4, s5, s6, s7⟩ := hS; go_simp; first | done | exact ⟨rfl, rfl⟩ | with_reducible rfl) (fun wv hS => ?_) ?_; · obtain ⟨s0, s1, s2, s3, s4, s5, s6, s7⟩ := hS; refine (implCExt a0 a1 n0 c0 n1 c1 B zA zl x.ts x.beta a3 n3 c3 B' x.hops r x.ing wv (hA'.mk s0 hBt (.inr (Nat.le_refl _))) (hl'.mk s0 hBt (.inr (Nat.le_refl _))) (Nat.le_trans hBt s0.size) hn0 hn1 (hr.mk s0 hBr (.inr (Nat.le_refl _))) (Nat.le_trans hBr s0.size) hbd hz hfx.2.1 hfx.2.2.1 hfx.2.2.2 s7).mono ?_; rintro e w' ⟨he, mm⟩; exact ⟨by rw [he, ← hce.out], ⟨s0.trans mm, mm.cellAt s1, mm.cellAt s2, mm.cellAt s3, mm.cellAt s4, mm.cellAt s5, mm.cellAt s6, mm.cellAt s7⟩⟩
            try simp only [Act.put, List.getElem_toArray, List.getElem_cons_succ, List.getElem_cons_zero, List.setIfInBounds_toArray, List.set_cons_zero, List.set_cons_succ]
            first | (refine Wk.skip (m := 7) (k := 7) rfl (by rfl) ?_) | (refine Wk.step (m := 7) (k := 7) (v := _) rfl (by rfl) (fun wv hS => by obtain ⟨s0, s1, s2, s3, s4, s5, s6, s7⟩ := hS; go_simp; try with_reducible rfl) ?_)
            try simp only [Act.put, List.getElem_toArray, List.getElem_cons_succ, List.getElem_cons_zero, List.setIfInBounds_toArray, List.set_cons_zero, List.set_cons_succ]
            first | (refine Wk.skip (m := 6) (k := 8) rfl (by rfl) ?_) | (refine Wk.step (m := 6) (k := 8) (v := _) rfl (by rfl) (fun wv hS => by obtain ⟨s0, s1, s2, s3, s4, s5, s6, s7⟩ := hS; go_simp; try with_reducible rfl) ?_)
            try simp only [Act.put, List.getElem_toArray, List.getElem_cons_succ, List.getElem_cons_zero, List.setIfInBounds_toArray, List.set_cons_zero, List.set_cons_succ]
            first | (refine Wk.skip (m := 5) (k := 9) rfl (by rfl) ?_) | (refine Wk.step (m := 5) (k := 9) (v := _) rfl (by rfl) (fun wv hS => by obtain ⟨s0, s1, s2, s3, s4, s5, s6, s7⟩ := hS; go_simp; try with_reducible rfl) ?_)
            try simp only [Act.put, List.getElem_toArray, List.getElem_cons_succ, List.getElem_cons_zero, List.setIfInBounds_toArray, List.set_cons_zero, List.set_cons_succ]
            first | (refine Wk.skip (m := 4) (k := 10) rfl (by rfl) ?_) | (refine Wk.step (m := 4) (k := 10) (v := _) rfl (by rfl) (fun wv hS => by obtain ⟨s0, s1, s2, s3, s4, s5, s6, s7⟩ := hS; go_simp; try with_reducible rfl) ?_)
            try simp only [Act.put, List.getElem_toArray, List.getElem_cons_succ, List.getElem_cons_zero, List.setIfInBounds_toArray, List.set_cons_zero, List.set_cons_succ]
            first | (refine Wk.skip (m := 3) (k := 11) rfl (by rfl) ?_) | (refine Wk.step (m := 3) (k := 11) (v := _) rfl (by rfl) (fun wv hS => by obtain ⟨s0, s1, s2, s3, s4, s5, s6, s7⟩ := hS; go_simp; try with_reducible rfl) ?_)
            try simp only [Act.put, List.getElem_toArray, List.getElem_cons_succ, List.getElem_cons_zero, List.setIfInBounds_toArray, List.set_cons_zero, List.set_cons_succ]
            first | (refine Wk.skip (m := 2) (k := 12) rfl (by rfl) ?_) | (refine Wk.step (m := 2) (k := 12) (v := _) rfl (by rfl) (fun wv hS => by obtain ⟨s0, s1, s2, s3, s4, s5, s6, s7⟩ := hS; go_simp; try with_reducible rfl) ?_)
            try simp only [Act.put, List.getElem_toArray, List.getElem_cons_succ, List.getElem_cons_zero, List.setIfInBounds_toArray, List.set_cons_zero, List.set_cons_succ]
            refine Wk.call (m := 1) (k := 13) (v := .bool true) _ _ rfl (by rfl) (fun wv hS => by obtain ⟨s0, s1, s2, s3, s4, s5, s6, s7⟩ := hS; go_simp; first | done | exact ⟨rfl, rfl⟩ | with_reducible rfl) (fun wv hS => ?_) ?_; · obtain ⟨s0, s1, s2, s3, s4, s5, s6, s7⟩ := hS; refine (implHasBc x.ing x.ts x.beta _ a3 k c n3 c3 B' B' (zs.take k) x.hops wv (hPre.mk s0 hBr (.inr (Nat.le_refl _))) (hr.mk s0 hBr (.inr (Nat.le_refl _))) (Nat.le_trans hBr s0.size) (Nat.le_trans hBr s0.size) hPs hbd).mono ?_; rintro e w' ⟨he, mm⟩; exact ⟨by rw [he, anyB_take _ _ _ _ (Nat.le_refl _), ← hha.out], ⟨s0.trans mm, mm.cellAt s1, mm.cellAt s2, mm.cellAt s3, mm.cellAt s4, mm.cellAt s5, mm.cellAt s6, mm.cellAt s7⟩⟩
            try simp only [Act.put, List.getElem_toArray, List.getElem_cons_succ, List.getElem_cons_zero, List.setIfInBounds_toArray, List.set_cons_zero, List.set_cons_succ]
            first | (refine Wk.skip (m := 0) (k := 14) rfl (by rfl) ?_) | (refine Wk.step (m := 0) (k := 14) (v := _) rfl (by rfl) (fun wv hS => by obtain ⟨s0, s1, s2, s3, s4, s5, s6, s7⟩ := hS; go_simp; try with_reducible rfl) ?_)
            try simp only [Act.put, List.getElem_toArray, List.getElem_cons_succ, List.getElem_cons_zero, List.setIfInBounds_toArray, List.set_cons_zero, List.set_cons_succ]
            refine Wk.done fun wE hE => ?_
            clear k0 k1 e0 e1 e2 e3 HG
            obtain ⟨mE, k0, k1, e0, e1, e2, e3, HG⟩ := hE
            go_wp2_with fail
            go_ret
            exact ⟨retB (by rw [HR.out, HE.out, Bool.and_false]), hMW.trans (MX.trans mE)⟩
      · obtain rfl : k = n := by omega
        go_wp2_with fail
        go_ret
        exact ⟨retB (by rw [HR.out, HF.out, hAll.out]; rfl), hMW⟩

end Go.Proofs.YtdhdkhnefnbdgaaGreatDoor
