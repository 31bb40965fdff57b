
/- What ValidPart calls. -/
import Derived.Test.YtpkgpaeecjlnoaaRealm
import Derived.Test.YtpkgpaeecjlnoaaWFm
import Derived.Test.YtpkgpaeecjlnoaaPart
import Derived.Test.YtpkgpaeecjlnoaaWk
import Derived.Test.YtpkgpaeecjlnoaaSegL
import Derived.Test.YtpkgpaeecjlnoaaAppR
import Derived.Test.YtpkgpaeecjlnoaaInB
namespace Go.Proofs.Ytpkgpaeecjlnoaa
open Go.ChangeShapes Go.WideShapes Go.ChangeAt Go.RowKit
set_option linter.unusedVariables false
/-- Behind hop q, the next one. -/
def leadB (zl : List TLink) (n1 : Nat) (kd : Int) (zs : List THop) (n q : Nat) : Bool :=
  (pOutV kd zs n (q : Int) != 0) && (((remote zl (zs.getD q default).nd (pOutV kd zs n (q : Int)) n1).1 == (zs.getD (q + 1) default).nd) && ((remote zl (zs.getD q default).nd (pOutV kd zs n (q : Int)) n1).2 == pInV kd zs n ((q + 1 : Nat) : Int)))
def vpI (n0 : Nat) (zl : List TLink) (n1 : Nat) (kd : Int) (zs : List THop) (n k : Nat) : Bool :=
  hopOk (zs.getD k default) && (isAsB n0 (zs.getD k default).nd && (!inUp (ndAt zs) (zs.getD k default).nd k && (k == 0 || leadB zl n1 kd zs n (k - 1))))
def vpH (x0 x1 x2 : Int) (n : Nat) : Bool := inB x0 1 4 && (inB x1 0 1000000 && (inB x2 0 2147483646 && inB (n : Int) 1 8))
def vpB (n0 : Nat) (zl : List TLink) (n1 : Nat) (x0 x1 x2 : Int) (zs : List THop) (n : Nat) : Bool := vpH x0 x1 x2 n && allN (vpI n0 zl n1 x0 zs n) n
theorem vp_nd {zs : List THop} {k n : Nat} {n0 : Nat} {zl : List TLink} {n1 : Nat} {kd : Int} (h : allN (vpI n0 zl n1 kd zs n) k = true) : ∀ j, j < k → 0 ≤ ndAt zs j ∧ ndAt zs j ≤ 15 := by
  intro j hj
  have h1 := (allN_iff _ _).1 h j hj
  simp only [vpI, Bool.and_eq_true, hopOk, decide_eq_true_eq] at h1
  have := h1.1.1
  unfold ndAt
  omega
set_option maxRecDepth 100000 in
set_option maxHeartbeats 4000000 in
theorem implPK (k : Int) (w : World) : Calls Try.prog 109 #[.int .i64 k] w fun e w' => e = .returned (.bool (inB k 1 4)) ∧ Mk0 w w' := by
  by_cases e1 : k = 1
  · subst e1
    go_enter Try.func109, Try.ntmps109
    go_wp2_with fail
    refine (kindIs1 _).mono ?_
    rintro e w2 ⟨rfl, m2⟩
    go_wp2_with fail
    go_ret
    exact ⟨rfl, m2⟩
  by_cases e2 : k = 2
  · subst e2
    go_enter Try.func109, Try.ntmps109
    go_wp2_with fail
    refine (kindIs2 _).mono ?_
    rintro e w2 ⟨rfl, m2⟩
    go_wp2_with fail
    go_ret
    exact ⟨rfl, m2⟩
  by_cases e3 : k = 3
  · subst e3
    go_enter Try.func109, Try.ntmps109
    go_wp2_with fail
    refine (kindIs3 _).mono ?_
    rintro e w2 ⟨rfl, m2⟩
    go_wp2_with fail
    go_ret
    exact ⟨rfl, m2⟩
  by_cases e4 : k = 4
  · subst e4
    go_enter Try.func109, Try.ntmps109
    go_wp2_with fail
    refine (kindIs4 _).mono ?_
    rintro e w2 ⟨rfl, m2⟩
    go_wp2_with fail
    go_ret
    exact ⟨rfl, m2⟩
  have HR := Lib.hid (show inB k 1 4 = false by unfold inB; exact decide_eq_false (by omega))
  have f1 : (k == 1) = false := by simpa using e1
  clear e1
  have f2 : (k == 2) = false := by simpa using e2
  clear e2
  have f3 : (k == 3) = false := by simpa using e3
  clear e3
  have f4 : (k == 4) = false := by simpa using e4
  clear e4
  go_enter Try.func109, Try.ntmps109
  go_wp2_with fail
  refine (kindIs0 k _ f1 f2 f3 f4).mono ?_
  rintro e w2 ⟨rfl, m2⟩
  go_wp2_with fail
  go_ret
  exact ⟨retB HR.out.symm, m2⟩

/-- A call that hands back a new row of numbers that it owns whole. -/
def OutOwnN (e : TypeId) (w : World) (R : List Int) (en : Ending) (w' : World) : Prop :=
  ∃ v, en = .returned v ∧ w'.ownsRow w.heap.size e 1 v R.length (R.map (.int .i64)) ∧ Mk0 w w'
theorem OutOwnN.of {w w' : World} {R : List Int} {v : Value} {n : Nat} {e : TypeId} (h : w'.ownsRow w.heap.size e 1 v n (R.map (.int .i64))) (hb : Mk0 w w') : OutOwnN e w R (.returned v) w' := by
  have hl : n = R.length := by have := h.1; simp at this; omega
  subst hl
  exact ⟨v, rfl, h, hb⟩
set_option maxRecDepth 100000 in
set_option maxHeartbeats 1600000 in
theorem specRealms (x0 x1 x2 : Int) (a : Option Addr) (n c B : Nat) (zs : List THop) (w : World) (h : HasHop w B a n zs) (hB : B ≤ w.heap.size) (hn : n ≤ 1048576) :
    Calls Try.prog 114 #[.agg #[.int .i64 x0, .int .i64 x1, .int .i64 x2, .slice a n c]] w (OutOwnN 3 w (colN THop.nd zs n)) := by
  obtain ⟨i0, hi, hz0, hz1, hz2⟩ := info_parts infoI64
  have hby : i0.bytes ≤ 8 := by rw [hz2]; decide
  go_enter Try.func114, Try.ntmps114
  go_wp2_with fail
  have ho : ((w.alloc (Obj.cells #[Value.int .i64 x0, Value.int .i64 x1, Value.int .i64 x2, Value.slice a n c] 70)).alloc (.cells #[] 3)).ownsRow (w.alloc (Obj.cells #[Value.int .i64 x0, Value.int .i64 x1, Value.int .i64 x2, Value.slice a n c] 70)).heap.size 3 1 (.slice (some ⟨w.heap.size + 1, 0, none⟩) 0 0) 0 (([] : List Int).map (.int .i64)) := by
    have h1 := own_lit (w.alloc (Obj.cells #[Value.int .i64 x0, Value.int .i64 x1, Value.int .i64 x2, Value.slice a n c] 70)) 3 [] (by simp)
    rw [World.size_alloc w] at h1 ⊢
    exact h1
  have hB0 : Below (w.alloc (Obj.cells #[Value.int .i64 x0, Value.int .i64 x1, Value.int .i64 x2, Value.slice a n c] 70)).heap.size (w.alloc (Obj.cells #[Value.int .i64 x0, Value.int .i64 x1, Value.int .i64 x2, Value.slice a n c] 70)) ((w.alloc (Obj.cells #[Value.int .i64 x0, Value.int .i64 x1, Value.int .i64 x2, Value.slice a n c] 70)).alloc (.cells #[] 3)) := (Below.refl _ _).alloc (Nat.le_refl _) _
  go_loopw [3, 4] (fun v i wr => ∃ k : Nat, k ≤ n ∧ i = .int .i64 k ∧ wr.ownsRow (w.alloc (Obj.cells #[Value.int .i64 x0, Value.int .i64 x1, Value.int .i64 x2, Value.slice a n c] 70)).heap.size 3 1 v k ((colN THop.nd zs k).map (.int .i64)) ∧ Below (w.alloc (Obj.cells #[Value.int .i64 x0, Value.int .i64 x1, Value.int .i64 x2, Value.slice a n c] 70)).heap.size (w.alloc (Obj.cells #[Value.int .i64 x0, Value.int .i64 x1, Value.int .i64 x2, Value.slice a n c] 70)) wr) (fun _ i _ => n - (intOf i).toNat)
  case atStart => exact ⟨0, Nat.zero_le _, rfl, ho, hB0⟩
  case round =>
    clear ho hB0
    obtain ⟨k, hk, rfl, ho, hB1⟩ := hrel
    have M1 := (Mk.alloc w (Obj.cells #[Value.int .i64 x0, Value.int .i64 x1, Value.int .i64 x2, Value.slice a n c] 70)).trans (Mk.of_below hB1)
    have k2 : wr.cell? ⟨w.heap.size, 3, none⟩ = some (.slice a n c) := (Mk.of_below hB1).cellAt (by simp [go_sem])
    have hsz := hB1.size
    by_cases hlt : k < n
    · obtain ⟨b, off, x, rfl, hb, hx, d0, d1, d2, d3, d4⟩ := HasHop.at _ _ _ _ _ _ (h.mk M1 hB (.inr (Nat.le_refl _))) (show k < n by omega)
      have hbr := World.block_lt_of_cell? _ _ d0
      simp only at hbr
      have HE := Lib.hid (show colN THop.nd zs (k + 1) = colN THop.nd zs k ++ [x.nd] by rw [colN, hx.out])
      have hn1 := has_new .i64 wr 3 x.nd
      have ho' := ho.alloc (.cells #[.int .i64 x.nd] 3)
      have hb' := hB1.alloc hsz (.cells #[.int .i64 x.nd] 3)
      have hlo' : (w.alloc (Obj.cells #[Value.int .i64 x0, Value.int .i64 x1, Value.int .i64 x2, Value.slice (some ⟨b, off, none⟩) n c] 70)).heap.size ≤ (wr.alloc (.cells #[.int .i64 x.nd] 3)).heap.size := by rw [World.size_alloc wr]; omega
      have hbnd : k + 1 ≤ 1073741824 := by omega
      go_wp2_with (at_builtin; refine wpList_app rfl (.tmp 13) (.tmp 20) 51 rfl _ 3 i0 Try.underlying51 hi hz0 hz1 hby _ (colN THop.nd zs k) k rfl ho' _ 1 1 [x.nd] rfl (fun h => by cases h) hn1 hbnd hlo' ?_; intro v2 w2 ho2 hg2 _)
      have hb2 := hb'.grown hg2 hlo' (fun g hg => (ho.lt g hg).1)
      go_roundw
      case rel => exact ⟨k + 1, by omega, by go_num, by rw [HE.out]; exact ho2, hb2⟩
      case measure => simp [intOf]; omega
    · obtain rfl : k = n := by omega
      go_wp2
      go_ret
      exact OutOwnN.of (own_low ho (by rw [World.size_alloc]; omega)) M1

set_option maxRecDepth 100000 in
set_option maxHeartbeats 4000000 in
theorem implLeads (a0 a1 : Option Addr) (n0 c0 n1 c1 B : Nat) (zl : List TLink) (x0 x1 x2 : Int) (a : Option Addr) (n c B' : Nat) (zs : List THop) (q : Nat) (w : World) (hl : HasLink w B a1 n1 zl) (hB : B ≤ w.heap.size) (hn1 : n1 ≤ 1048576) (h : HasHop w B' a n zs) (hB' : B' ≤ w.heap.size) (hn : n ≤ 1048576) (hq : q + 1 < n) :
    Calls Try.prog 119 #[.agg #[.slice a0 n0 c0, .slice a1 n1 c1], .agg #[.int .i64 x0, .int .i64 x1, .int .i64 x2, .slice a n c], .int .i64 (q : Nat)] w fun e w' => e = .returned (.bool (leadB zl n1 x0 zs n q)) ∧ Mk0 w w' := by
  have M0 := (Mk.alloc w (Obj.cells #[Value.slice a0 n0 c0, Value.slice a1 n1 c1] 35)).new (Obj.cells #[Value.int .i64 x0, Value.int .i64 x1, Value.int .i64 x2, Value.slice a n c] 70)
  obtain ⟨b, off, x, rfl, hb, hx, d0, d1, d2, d3, d4⟩ := HasHop.at _ _ _ _ _ _ (h.mk M0 hB' (.inr (Nat.le_refl _))) (show q < n by omega)
  obtain ⟨b', off', y, eb, hb', hy, e0, e1, e2, e3, e4⟩ := HasHop.at _ _ _ _ _ _ (h.mk M0 hB' (.inr (Nat.le_refl _))) hq
  simp only [Option.some.injEq, Addr.mk.injEq, and_true] at eb
  obtain ⟨rfl, rfl⟩ := eb
  clear d1 d2 d3 d4 e1 e2 e3 e4
  have k0 : ((w.alloc (Obj.cells #[Value.slice a0 n0 c0, Value.slice a1 n1 c1] 35)).alloc (Obj.cells #[Value.int .i64 x0, Value.int .i64 x1, Value.int .i64 x2, Value.slice (some ⟨b, off, none⟩) n c] 70)).cell? ⟨w.heap.size, 0, none⟩ = some (.slice a0 n0 c0) := by simp [go_sem]
  have k1 : ((w.alloc (Obj.cells #[Value.slice a0 n0 c0, Value.slice a1 n1 c1] 35)).alloc (Obj.cells #[Value.int .i64 x0, Value.int .i64 x1, Value.int .i64 x2, Value.slice (some ⟨b, off, none⟩) n c] 70)).cell? ⟨w.heap.size, 1, none⟩ = some (.slice a1 n1 c1) := by simp [go_sem]
  have p0 : ((w.alloc (Obj.cells #[Value.slice a0 n0 c0, Value.slice a1 n1 c1] 35)).alloc (Obj.cells #[Value.int .i64 x0, Value.int .i64 x1, Value.int .i64 x2, Value.slice (some ⟨b, off, none⟩) n c] 70)).cell? ⟨w.heap.size + 1, 0, none⟩ = some (.int .i64 x0) := by simp [go_sem]
  have p1 : ((w.alloc (Obj.cells #[Value.slice a0 n0 c0, Value.slice a1 n1 c1] 35)).alloc (Obj.cells #[Value.int .i64 x0, Value.int .i64 x1, Value.int .i64 x2, Value.slice (some ⟨b, off, none⟩) n c] 70)).cell? ⟨w.heap.size + 1, 1, none⟩ = some (.int .i64 x1) := by simp [go_sem]
  have p2 : ((w.alloc (Obj.cells #[Value.slice a0 n0 c0, Value.slice a1 n1 c1] 35)).alloc (Obj.cells #[Value.int .i64 x0, Value.int .i64 x1, Value.int .i64 x2, Value.slice (some ⟨b, off, none⟩) n c] 70)).cell? ⟨w.heap.size + 1, 2, none⟩ = some (.int .i64 x2) := by simp [go_sem]
  have p3 : ((w.alloc (Obj.cells #[Value.slice a0 n0 c0, Value.slice a1 n1 c1] 35)).alloc (Obj.cells #[Value.int .i64 x0, Value.int .i64 x1, Value.int .i64 x2, Value.slice (some ⟨b, off, none⟩) n c] 70)).cell? ⟨w.heap.size + 1, 3, none⟩ = some (.slice (some ⟨b, off, none⟩) n c) := by simp [go_sem]
  have i1 : (0 : Int) ≤ (q : Int) := by omega
  have i2 : (q : Int) < (n : Int) := by omega
  have i3 : (q : Int) + 1 < (n : Int) := by omega
  obtain ⟨O, hO⟩ : ∃ O, Hid (O = pOutV x0 zs n (q : Int)) := ⟨_, Lib.hid rfl⟩
  obtain ⟨I, hI⟩ : ∃ I, Hid (I = pInV x0 zs n ((q + 1 : Nat) : Int)) := ⟨_, Lib.hid rfl⟩
  obtain ⟨R1, hR1⟩ : ∃ R, Hid (R = (remote zl x.nd O n1).1) := ⟨_, Lib.hid rfl⟩
  obtain ⟨R2, hR2⟩ : ∃ R, Hid (R = (remote zl x.nd O n1).2) := ⟨_, Lib.hid rfl⟩
  have HR := Lib.hid (show leadB zl n1 x0 zs n q = ((O != 0) && ((R1 == y.nd) && (R2 == I))) by unfold leadB; rw [← hx.out, ← hy.out, ← hO.out, ← hI.out, ← hR1.out, ← hR2.out])
  go_enter Try.func119, Try.ntmps119
  go_wp2_with fail
  refine (implPOut x0 x1 x2 _ n c B' zs (q : Int) _ (h.mk M0 hB' (.inr (Nat.le_refl _))) (Nat.le_trans hB' M0.size) hn).mono ?_
  rintro e w2 ⟨rfl, m2⟩
  rw [← hO.out]
  replace k0 := m2.cellAt k0
  replace k1 := m2.cellAt k1
  replace p0 := m2.cellAt p0
  replace p1 := m2.cellAt p1
  replace p2 := m2.cellAt p2
  replace p3 := m2.cellAt p3
  replace d0 := m2.cellAt d0
  replace e0 := m2.cellAt e0
  have M2 := M0.trans m2
  go_wp2_with fail
  refine wp_region_wk (fun w' => Mk0 w2 w' ∧ w'.cell? ⟨w.heap.size, 0, none⟩ = some (.slice a0 n0 c0) ∧ w'.cell? ⟨w.heap.size, 1, none⟩ = some (.slice a1 n1 c1) ∧ w'.cell? ⟨w.heap.size + 1, 0, none⟩ = some (.int .i64 x0) ∧ w'.cell? ⟨w.heap.size + 1, 1, none⟩ = some (.int .i64 x1) ∧ w'.cell? ⟨w.heap.size + 1, 2, none⟩ = some (.int .i64 x2) ∧ w'.cell? ⟨w.heap.size + 1, 3, none⟩ = some (.slice (some ⟨b, off, none⟩) n c) ∧ w'.cell? ⟨b, off + q * 5, none⟩ = some (.int .i64 x.nd) ∧ w'.cell? ⟨b, off + (q + 1) * 5, none⟩ = some (.int .i64 y.nd)) (by kernel_rfl) (by kernel_rfl) (⟨Mk.drew1 _, k0, k1, p0, p1, p2, p3, d0, e0⟩) ?_
  change Wk _ _ _ _ 14 0 _
  first | (refine Wk.skip (m := 13) (k := 0) rfl (by rfl) ?_) | (refine Wk.step (m := 13) (k := 0) (v := _) rfl (by rfl) (fun wv hS => by obtain ⟨s0, s1, s2, s3, s4, s5, s6, s7, s8⟩ := hS; go_simp; try with_reducible rfl) ?_)
  try simp only [Act.put, List.getElem_toArray, List.getElem_cons_zero, List.setIfInBounds_toArray, List.set_cons_zero, List.set_cons_succ]
  first | (refine Wk.skip (m := 12) (k := 1) rfl (by rfl) ?_) | (refine Wk.step (m := 12) (k := 1) (v := _) rfl (by rfl) (fun wv hS => by obtain ⟨s0, s1, s2, s3, s4, s5, s6, s7, s8⟩ := hS; go_simp; try with_reducible rfl) ?_)
  try simp only [Act.put, List.getElem_toArray, List.getElem_cons_succ, List.getElem_cons_zero, List.setIfInBounds_toArray, List.set_cons_zero, List.set_cons_succ]
  first | (refine Wk.skip (m := 11) (k := 2) rfl (by rfl) ?_) | (refine Wk.step (m := 11) (k := 2) (v := _) rfl (by rfl) (fun wv hS => by obtain ⟨s0, s1, s2, s3, s4, s5, s6, s7, s8⟩ := hS; go_simp; try with_reducible rfl) ?_)
  try simp only [Act.put, List.getElem_toArray, List.getElem_cons_succ, List.getElem_cons_zero, List.setIfInBounds_toArray, List.set_cons_zero, List.set_cons_succ]
  first | (refine Wk.skip (m := 10) (k := 3) rfl (by rfl) ?_) | (refine Wk.step (m := 10) (k := 3) (v := _) rfl (by rfl) (fun wv hS => by obtain ⟨s0, s1, s2, s3, s4, s5, s6, s7, s8⟩ := hS; go_simp; try with_reducible rfl) ?_)
  try simp only [Act.put, List.getElem_toArray, List.getElem_cons_succ, List.getElem_cons_zero, List.setIfInBounds_toArray, List.set_cons_zero, List.set_cons_succ]
  first | (refine Wk.skip (m := 9) (k := 4) rfl (by rfl) ?_) | (refine Wk.step (m := 9) (k := 4) (v := _) rfl (by rfl) (fun wv hS => by obtain ⟨s0, s1, s2, s3, s4, s5, s6, s7, s8⟩ := hS; go_simp; try with_reducible rfl) ?_)
  try simp only [Act.put, List.getElem_toArray, List.getElem_cons_succ, List.getElem_cons_zero, List.setIfInBounds_toArray, List.set_cons_zero, List.set_cons_succ]
  first | (refine Wk.skip (m := 8) (k := 5) rfl (by rfl) ?_) | (refine Wk.step (m := 8) (k := 5) (v := _) rfl (by rfl) (fun wv hS => by obtain ⟨s0, s1, s2, s3, s4, s5, s6, s7, s8⟩ := hS; go_simp; try with_reducible rfl) ?_)
  try simp only [Act.put, List.getElem_toArray, List.getElem_cons_succ, List.getElem_cons_zero, List.setIfInBounds_toArray, List.set_cons_zero, List.set_cons_succ]
  first | (refine Wk.skip (m := 7) (k := 6) rfl (by rfl) ?_) | (refine Wk.step (m := 7) (k := 6) (v := _) rfl (by rfl) (fun wv hS => by obtain ⟨s0, s1, s2, s3, s4, s5, s6, s7, s8⟩ := hS; go_simp; try with_reducible rfl) ?_)
  try simp only [Act.put, List.getElem_toArray, List.getElem_cons_succ, List.getElem_cons_zero, List.setIfInBounds_toArray, List.set_cons_zero, List.set_cons_succ]
  first | (refine Wk.skip (m := 6) (k := 7) rfl (by rfl) ?_) | (refine Wk.step (m := 6) (k := 7) (v := _) rfl (by rfl) (fun wv hS => by obtain ⟨s0, s1, s2, s3, s4, s5, s6, s7, s8⟩ := hS; go_simp; try with_reducible rfl) ?_)
  try simp only [Act.put, List.getElem_toArray, List.getElem_cons_succ, List.getElem_cons_zero, List.setIfInBounds_toArray, List.set_cons_zero, List.set_cons_succ]
  refine Wk.call (m := 5) (k := 8) (v := .tuple #[.int .i64 R1, .int .i64 R2]) _ _ rfl (by rfl) (fun wv hS => by obtain ⟨s0, s1, s2, s3, s4, s5, s6, s7, s8⟩ := hS; go_simp; first | done | exact ⟨rfl, rfl⟩ | with_reducible rfl) (fun wv hS => ?_) ?_; · obtain ⟨s0, s1, s2, s3, s4, s5, s6, s7, s8⟩ := hS; refine (implRemote a0 a1 n0 c0 n1 c1 B zl x.nd O wv (hl.mk (M2.trans s0) hB (.inr (Nat.le_refl _))) (Nat.le_trans hB (M2.trans s0).size) hn1).mono ?_; rintro e w' ⟨he, mm⟩; exact ⟨by rw [he, ← hR1.out, ← hR2.out], ⟨s0.trans mm, mm.cellAt s1, mm.cellAt s2, mm.cellAt s3, mm.cellAt s4, mm.cellAt s5, mm.cellAt s6, mm.cellAt s7, mm.cellAt s8⟩⟩
  try simp only [Act.put, List.getElem_toArray, List.getElem_cons_succ, List.getElem_cons_zero, List.setIfInBounds_toArray, List.set_cons_zero, List.set_cons_succ]
  first | (refine Wk.skip (m := 4) (k := 9) rfl (by rfl) ?_) | (refine Wk.step (m := 4) (k := 9) (v := _) rfl (by rfl) (fun wv hS => by obtain ⟨s0, s1, s2, s3, s4, s5, s6, s7, s8⟩ := hS; go_simp; try with_reducible rfl) ?_)
  try simp only [Act.put, List.getElem_toArray, List.getElem_cons_succ, List.getElem_cons_zero, List.setIfInBounds_toArray, List.set_cons_zero, List.set_cons_succ]
  first | (refine Wk.skip (m := 3) (k := 10) rfl (by rfl) ?_) | (refine Wk.step (m := 3) (k := 10) (v := _) rfl (by rfl) (fun wv hS => by obtain ⟨s0, s1, s2, s3, s4, s5, s6, s7, s8⟩ := hS; go_simp; try with_reducible rfl) ?_)
  try simp only [Act.put, List.getElem_toArray, List.getElem_cons_succ, List.getElem_cons_zero, List.setIfInBounds_toArray, List.set_cons_zero, List.set_cons_succ]
  first | (refine Wk.skip (m := 2) (k := 11) rfl (by rfl) ?_) | (refine Wk.step (m := 2) (k := 11) (v := _) rfl (by rfl) (fun wv hS => by obtain ⟨s0, s1, s2, s3, s4, s5, s6, s7, s8⟩ := hS; go_simp; try with_reducible rfl) ?_)
  try simp only [Act.put, List.getElem_toArray, List.getElem_cons_succ, List.getElem_cons_zero, List.setIfInBounds_toArray, List.set_cons_zero, List.set_cons_succ]
  first | (refine Wk.skip (m := 1) (k := 12) rfl (by rfl) ?_) | (refine Wk.step (m := 1) (k := 12) (v := _) rfl (by rfl) (fun wv hS => by obtain ⟨s0, s1, s2, s3, s4, s5, s6, s7, s8⟩ := hS; go_simp; try with_reducible rfl) ?_)
  try simp only [Act.put, List.getElem_toArray, List.getElem_cons_succ, List.getElem_cons_zero, List.setIfInBounds_toArray, List.set_cons_zero, List.set_cons_succ]
  first | (refine Wk.skip (m := 0) (k := 13) rfl (by rfl) ?_) | (refine Wk.step (m := 0) (k := 13) (v := _) rfl (by rfl) (fun wv hS => by obtain ⟨s0, s1, s2, s3, s4, s5, s6, s7, s8⟩ := hS; go_simp; try with_reducible rfl) ?_)
  try simp only [Act.put, List.getElem_toArray, List.getElem_cons_succ, List.getElem_cons_zero, List.setIfInBounds_toArray, List.set_cons_zero, List.set_cons_succ]
  refine Wk.done fun wE hE => ?_
  clear k0 k1 p0 p1 p2 p3 d0 e0
  obtain ⟨mE, k0, k1, p0, p1, p2, p3, d0, e0⟩ := hE
  have M3 := M2.trans mE
  cases g0 : (O == 0)
  · have g0' : (O != 0) = true := by simp only [bne, g0]; rfl
    rw [g0'] at HR
    clear g0
    cases g1 : (R1 == y.nd)
    · rw [g1] at HR
      go_wp2_with fail
      go_ret
      exact ⟨retB HR.out.symm, M3⟩
    · rw [g1] at HR
      go_wp2_with fail
      refine (implPIn x0 x1 x2 _ n c B' zs ((q + 1 : Nat) : Int) _ (h.mk M3 hB' (.inr (Nat.le_refl _))) (Nat.le_trans hB' M3.size) hn).mono ?_
      rintro e w4 ⟨rfl, m4⟩
      rw [← hI.out]
      cases g2 : (R2 == I)
      · rw [g2] at HR
        go_wp2_with fail
        go_ret
        exact ⟨retB HR.out.symm, (M3.trans m4)⟩
      · rw [g2] at HR
        go_wp2_with fail
        go_ret
        exact ⟨retB HR.out.symm, (M3.trans m4)⟩
  · have g0' : (O != 0) = false := by simp only [bne, g0]; rfl
    rw [g0'] at HR
    clear g0
    go_wp2_with fail
    go_ret
    exact ⟨retB HR.out.symm, M3⟩

end Go.Proofs.Ytpkgpaeecjlnoaa
