
/- What ValidPart calls. -/
import Derived.Test.YtifhhfndoifbhaaGreatRealm
import Derived.Test.YtifhhfndoifbhaaGreatWF
import Derived.Test.YtifhhfndoifbhaaGreatTurn
import Derived.Test.YtifhhfndoifbhaaGreatWs
import Derived.Test.YtifhhfndoifbhaaGreatBetaAt
import Derived.Test.YtifhhfndoifbhaaGreatAppR
import Derived.Test.YtifhhfndoifbhaaGreatContI
import Derived.Test.YtifhhfndoifbhaaGreatSeen
namespace Go.Proofs.YtifhhfndoifbhaaGreat
open Go.ChangeShapes Go.WideShapes Go.ChangeAt Go.RowKit
set_option linter.unusedVariables false
/-- Behind hop q, the next one. -/
def leadB (zl : List TLink) (n1 : Nat) (kd : Int) (zs : List THop) (n q : Nat) : Bool :=
  (pOutV kd zs n (q : Int) != 0) && (((remote zl (zs.getD q default).nd (pOutV kd zs n (q : Int)) n1).1 == (zs.getD (q + 1) default).nd) && ((remote zl (zs.getD q default).nd (pOutV kd zs n (q : Int)) n1).2 == pInV kd zs n ((q + 1 : Nat) : Int)))
def vpI (n0 : Nat) (zl : List TLink) (n1 : Nat) (kd : Int) (zs : List THop) (n k : Nat) : Bool :=
  hopOk (zs.getD k default) && (isAsB n0 (zs.getD k default).nd && (!inUp (ndAt zs) (zs.getD k default).nd k && (k == 0 || leadB zl n1 kd zs n (k - 1))))
def vpH (x0 x1 x2 : Int) (n : Nat) : Bool := inB x0 1 4 && (inB x1 0 1000000 && (inB x2 0 2147483646 && inB (n : Int) 1 8))
def vpB (n0 : Nat) (zl : List TLink) (n1 : Nat) (x0 x1 x2 : Int) (zs : List THop) (n : Nat) : Bool := vpH x0 x1 x2 n && allN (vpI n0 zl n1 x0 zs n) n
theorem vp_nd {zs : List THop} {k n : Nat} {n0 : Nat} {zl : List TLink} {n1 : Nat} {kd : Int} (h : allN (vpI n0 zl n1 kd zs n) k = true) : ∀ j, j < k → 0 ≤ ndAt zs j ∧ ndAt zs j ≤ 15 := by
  intro j hj
  have h1 := (allN_iff _ _).1 h j hj
  simp only [vpI, Bool.and_eq_true, hopOk, decide_eq_true_eq] at h1
  have := h1.1.1
  unfold ndAt
  omega
set_option maxRecDepth 100000 in
set_option maxHeartbeats 4000000 in
theorem implPK (k : Int) (w : World) : Calls Tryz.prog 84 #[.int .i64 k] w fun e w' => e = .returned (.bool (inB k 1 4)) ∧ Mk0 w w' := by
  by_cases e1 : k = 1
  · subst e1
    go_enter Tryz.func84, Tryz.ntmps84
    go_wp2_with fail
    refine (kindIs1 _).mono ?_
    rintro e w2 ⟨rfl, m2⟩
    go_wp2_with fail
    go_ret
    exact ⟨rfl, m2⟩
  by_cases e2 : k = 2
  · subst e2
    go_enter Tryz.func84, Tryz.ntmps84
    go_wp2_with fail
    refine (kindIs2 _).mono ?_
    rintro e w2 ⟨rfl, m2⟩
    go_wp2_with fail
    go_ret
    exact ⟨rfl, m2⟩
  by_cases e3 : k = 3
  · subst e3
    go_enter Tryz.func84, Tryz.ntmps84
    go_wp2_with fail
    refine (kindIs3 _).mono ?_
    rintro e w2 ⟨rfl, m2⟩
    go_wp2_with fail
    go_ret
    exact ⟨rfl, m2⟩
  by_cases e4 : k = 4
  · subst e4
    go_enter Tryz.func84, Tryz.ntmps84
    go_wp2_with fail
    refine (kindIs4 _).mono ?_
    rintro e w2 ⟨rfl, m2⟩
    go_wp2_with fail
    go_ret
    exact ⟨rfl, m2⟩
  have HR := Lib.hid (show inB k 1 4 = false by unfold inB; exact decide_eq_false (by omega))
  have f1 : (k == 1) = false := by simpa using e1
  clear e1
  have f2 : (k == 2) = false := by simpa using e2
  clear e2
  have f3 : (k == 3) = false := by simpa using e3
  clear e3
  have f4 : (k == 4) = false := by simpa using e4
  clear e4
  go_enter Tryz.func84, Tryz.ntmps84
  go_wp2_with fail
  refine (kindIs0 k _ f1 f2 f3 f4).mono ?_
  rintro e w2 ⟨rfl, m2⟩
  go_wp2_with fail
  go_ret
  exact ⟨retB HR.out.symm, m2⟩

/-- A call that hands back a new row of numbers that it owns whole. -/
def OutOwnN (e : TypeId) (w : World) (R : List Int) (en : Ending) (w' : World) : Prop :=
  ∃ v, en = .returned v ∧ w'.ownsRow w.heap.size e 1 v R.length (R.map (.int .i64)) ∧ Mk0 w w'
theorem OutOwnN.of {w w' : World} {R : List Int} {v : Value} {n : Nat} {e : TypeId} (h : w'.ownsRow w.heap.size e 1 v n (R.map (.int .i64))) (hb : Mk0 w w') : OutOwnN e w R (.returned v) w' := by
  have hl : n = R.length := by have := h.1; simp at this; omega
  subst hl
  exact ⟨v, rfl, h, hb⟩
set_option maxRecDepth 100000 in
set_option maxHeartbeats 1600000 in
theorem specRealms (x0 x1 x2 : Int) (a : Option Addr) (n c B : Nat) (zs : List THop) (w : World) (h : HasHop w B a n zs) (hB : B ≤ w.heap.size) (hn : n ≤ 1048576) :
    Calls Tryz.prog 75 #[.agg #[.int .i64 x0, .int .i64 x1, .int .i64 x2, .slice a n c]] w (OutOwnN 3 w (colN THop.nd zs n)) := by
  obtain ⟨i0, hi, hz0, hz1, hz2⟩ := info_parts infoI64
  have hby : i0.bytes ≤ 8 := by rw [hz2]; decide
  go_enter Tryz.func75, Tryz.ntmps75
  go_wp2_with fail
  have ho : ((w.alloc (Obj.cells #[Value.int .i64 x0, Value.int .i64 x1, Value.int .i64 x2, Value.slice a n c] 50)).alloc (.cells #[] 3)).ownsRow (w.alloc (Obj.cells #[Value.int .i64 x0, Value.int .i64 x1, Value.int .i64 x2, Value.slice a n c] 50)).heap.size 3 1 (.slice (some ⟨w.heap.size + 1, 0, none⟩) 0 0) 0 (([] : List Int).map (.int .i64)) := by
    have h1 := own_lit (w.alloc (Obj.cells #[Value.int .i64 x0, Value.int .i64 x1, Value.int .i64 x2, Value.slice a n c] 50)) 3 [] (by simp)
    rw [World.size_alloc w] at h1 ⊢
    exact h1
  have hB0 : Below (w.alloc (Obj.cells #[Value.int .i64 x0, Value.int .i64 x1, Value.int .i64 x2, Value.slice a n c] 50)).heap.size (w.alloc (Obj.cells #[Value.int .i64 x0, Value.int .i64 x1, Value.int .i64 x2, Value.slice a n c] 50)) ((w.alloc (Obj.cells #[Value.int .i64 x0, Value.int .i64 x1, Value.int .i64 x2, Value.slice a n c] 50)).alloc (.cells #[] 3)) := (Below.refl _ _).alloc (Nat.le_refl _) _
  go_loopw [3, 4] (fun v i wr => ∃ k : Nat, k ≤ n ∧ i = .int .i64 k ∧ wr.ownsRow (w.alloc (Obj.cells #[Value.int .i64 x0, Value.int .i64 x1, Value.int .i64 x2, Value.slice a n c] 50)).heap.size 3 1 v k ((colN THop.nd zs k).map (.int .i64)) ∧ Below (w.alloc (Obj.cells #[Value.int .i64 x0, Value.int .i64 x1, Value.int .i64 x2, Value.slice a n c] 50)).heap.size (w.alloc (Obj.cells #[Value.int .i64 x0, Value.int .i64 x1, Value.int .i64 x2, Value.slice a n c] 50)) wr) (fun _ i _ => n - (intOf i).toNat)
  case atStart => exact ⟨0, Nat.zero_le _, rfl, ho, hB0⟩
  case round =>
    clear ho hB0
    obtain ⟨k, hk, rfl, ho, hB1⟩ := hrel
    have M1 := (Mk.alloc w (Obj.cells #[Value.int .i64 x0, Value.int .i64 x1, Value.int .i64 x2, Value.slice a n c] 50)).trans (Mk.of_below hB1)
    have k2 : wr.cell? ⟨w.heap.size, 3, none⟩ = some (.slice a n c) := (Mk.of_below hB1).cellAt (by simp [go_sem])
    have hsz := hB1.size
    by_cases hlt : k < n
    · obtain ⟨b, off, x, rfl, hb, hx, d0, d1, d2, d3, d4⟩ := HasHop.at _ _ _ _ _ _ (h.mk M1 hB (.inr (Nat.le_refl _))) (show k < n by omega)
      have hbr := World.block_lt_of_cell? _ _ d0
      simp only at hbr
      have HE := Lib.hid (show colN THop.nd zs (k + 1) = colN THop.nd zs k ++ [x.nd] by rw [colN, hx.out])
      have hn1 := has_new .i64 wr 3 x.nd
      have ho' := ho.alloc (.cells #[.int .i64 x.nd] 3)
      have hb' := hB1.alloc hsz (.cells #[.int .i64 x.nd] 3)
      have hlo' : (w.alloc (Obj.cells #[Value.int .i64 x0, Value.int .i64 x1, Value.int .i64 x2, Value.slice (some ⟨b, off, none⟩) n c] 50)).heap.size ≤ (wr.alloc (.cells #[.int .i64 x.nd] 3)).heap.size := by rw [World.size_alloc wr]; omega
      have hbnd : k + 1 ≤ 1073741824 := by omega
      go_wp2_with (at_builtin; refine wpList_app rfl (.tmp 13) (.tmp 20) 66 rfl _ 3 i0 Tryz.underlying66 hi hz0 hz1 hby _ (colN THop.nd zs k) k rfl ho' _ 1 1 [x.nd] rfl (fun h => by cases h) hn1 hbnd hlo' ?_; intro v2 w2 ho2 hg2 _)
      have hb2 := hb'.grown hg2 hlo' (fun g hg => (ho.lt g hg).1)
      go_roundw
      case rel => exact ⟨k + 1, by omega, by go_num, by rw [HE.out]; exact ho2, hb2⟩
      case measure => simp [intOf]; omega
    · obtain rfl : k = n := by omega
      go_wp2
      go_ret
      exact OutOwnN.of (own_low ho (by rw [World.size_alloc]; omega)) M1

set_option maxRecDepth 100000 in
set_option maxHeartbeats 4000000 in
theorem implLeads (a0 a1 : Option Addr) (n0 c0 n1 c1 B : Nat) (zl : List TLink) (x0 x1 x2 : Int) (a : Option Addr) (n c B' : Nat) (zs : List THop) (q : Nat) (w : World) (hl : HasLink w B a1 n1 zl) (hB : B ≤ w.heap.size) (hn1 : n1 ≤ 1048576) (h : HasHop w B' a n zs) (hB' : B' ≤ w.heap.size) (hn : n ≤ 1048576) (hq : q + 1 < n) :
    Calls Tryz.prog 90 #[.agg #[.slice a0 n0 c0, .slice a1 n1 c1], .agg #[.int .i64 x0, .int .i64 x1, .int .i64 x2, .slice a n c], .int .i64 (q : Nat)] w fun e w' => e = .returned (.bool (leadB zl n1 x0 zs n q)) ∧ Mk0 w w' := by
  have M0 := (Mk.alloc w (Obj.cells #[Value.slice a0 n0 c0, Value.slice a1 n1 c1] 35)).new (Obj.cells #[Value.int .i64 x0, Value.int .i64 x1, Value.int .i64 x2, Value.slice a n c] 50)
  obtain ⟨b, off, x, rfl, hb, hx, d0, d1, d2, d3, d4⟩ := HasHop.at _ _ _ _ _ _ (h.mk M0 hB' (.inr (Nat.le_refl _))) (show q < n by omega)
  obtain ⟨b', off', y, eb, hb', hy, e0, e1, e2, e3, e4⟩ := HasHop.at _ _ _ _ _ _ (h.mk M0 hB' (.inr (Nat.le_refl _))) hq
  simp only [Option.some.injEq, Addr.mk.injEq, and_true] at eb
  obtain ⟨rfl, rfl⟩ := eb
  clear d1 d2 d3 d4 e1 e2 e3 e4
  have k0 : ((w.alloc (Obj.cells #[Value.slice a0 n0 c0, Value.slice a1 n1 c1] 35)).alloc (Obj.cells #[Value.int .i64 x0, Value.int .i64 x1, Value.int .i64 x2, Value.slice (some ⟨b, off, none⟩) n c] 50)).cell? ⟨w.heap.size, 0, none⟩ = some (.slice a0 n0 c0) := by simp [go_sem]
  have k1 : ((w.alloc (Obj.cells #[Value.slice a0 n0 c0, Value.slice a1 n1 c1] 35)).alloc (Obj.cells #[Value.int .i64 x0, Value.int .i64 x1, Value.int .i64 x2, Value.slice (some ⟨b, off, none⟩) n c] 50)).cell? ⟨w.heap.size, 1, none⟩ = some (.slice a1 n1 c1) := by simp [go_sem]
  have p0 : ((w.alloc (Obj.cells #[Value.slice a0 n0 c0, Value.slice a1 n1 c1] 35)).alloc (Obj.cells #[Value.int .i64 x0, Value.int .i64 x1, Value.int .i64 x2, Value.slice (some ⟨b, off, none⟩) n c] 50)).cell? ⟨w.heap.size + 1, 0, none⟩ = some (.int .i64 x0) := by simp [go_sem]
  have p1 : ((w.alloc (Obj.cells #[Value.slice a0 n0 c0, Value.slice a1 n1 c1] 35)).alloc (Obj.cells #[Value.int .i64 x0, Value.int .i64 x1, Value.int .i64 x2, Value.slice (some ⟨b, off, none⟩) n c] 50)).cell? ⟨w.heap.size + 1, 1, none⟩ = some (.int .i64 x1) := by simp [go_sem]
  have p2 : ((w.alloc (Obj.cells #[Value.slice a0 n0 c0, Value.slice a1 n1 c1] 35)).alloc (Obj.cells #[Value.int .i64 x0, Value.int .i64 x1, Value.int .i64 x2, Value.slice (some ⟨b, off, none⟩) n c] 50)).cell? ⟨w.heap.size + 1, 2, none⟩ = some (.int .i64 x2) := by simp [go_sem]
  have p3 : ((w.alloc (Obj.cells #[Value.slice a0 n0 c0, Value.slice a1 n1 c1] 35)).alloc (Obj.cells #[Value.int .i64 x0, Value.int .i64 x1, Value.int .i64 x2, Value.slice (some ⟨b, off, none⟩) n c] 50)).cell? ⟨w.heap.size + 1, 3, none⟩ = some (.slice (some ⟨b, off, none⟩) n c) := by simp [go_sem]
  have i1 : (0 : Int) ≤ (q : Int) := by omega
  have i2 : (q : Int) < (n : Int) := by omega
  have i3 : (q : Int) + 1 < (n : Int) := by omega
  obtain ⟨O, hO⟩ : ∃ O, Hid (O = pOutV x0 zs n (q : Int)) := ⟨_, Lib.hid rfl⟩
  obtain ⟨I, hI⟩ : ∃ I, Hid (I = pInV x0 zs n ((q + 1 : Nat) : Int)) := ⟨_, Lib.hid rfl⟩
  obtain ⟨R1, hR1⟩ : ∃ R, Hid (R = (remote zl x.nd O n1).1) := ⟨_, Lib.hid rfl⟩
  obtain ⟨R2, hR2⟩ : ∃ R, Hid (R = (remote zl x.nd O n1).2) := ⟨_, Lib.hid rfl⟩
  have HR := Lib.hid (show leadB zl n1 x0 zs n q = ((O != 0) && ((R1 == y.nd) && (R2 == I))) by unfold leadB; rw [← hx.out, ← hy.out, ← hO.out, ← hI.out, ← hR1.out, ← hR2.out])
  go_enter Tryz.func90, Tryz.ntmps90
  go_wp2_with fail
  refine (implPOut x0 x1 x2 _ n c B' zs (q : Int) _ (h.mk M0 hB' (.inr (Nat.le_refl _))) (Nat.le_trans hB' M0.size) hn).mono ?_
  rintro e w2 ⟨rfl, m2⟩
  rw [← hO.out]
  replace k0 := m2.cellAt k0
  replace k1 := m2.cellAt k1
  replace p0 := m2.cellAt p0
  replace p1 := m2.cellAt p1
  replace p2 := m2.cellAt p2
  replace p3 := m2.cellAt p3
  replace d0 := m2.cellAt d0
  replace e0 := m2.cellAt e0
  have M2 := M0.trans m2
  go_wp2_with fail
  refine wp_region_wk (fun w' => Mk0 w2 w' ∧ w'.cell? ⟨w.heap.size, 0, none⟩ = some (.slice a0 n0 c0) ∧ w'.cell? ⟨w.heap.size, 1, none⟩ = some (.slice a1 n1 c1) ∧ w'.cell? ⟨w.heap.size + 1, 0, none⟩ = some (.int .i64 x0) ∧ w'.cell? ⟨w.heap.size + 1, 1, none⟩ = some (.int .i64 x1) ∧ w'.cell? ⟨w.heap.size + 1, 2, none⟩ = some (.int .i64 x2) ∧ w'.cell? ⟨w.heap.size + 1, 3, none⟩ = some (.slice (some ⟨b, off, none⟩) n c) ∧ w'.cell? ⟨b, off + q * 5, none⟩ = some (.int .i64 x.nd) ∧ w'.cell? ⟨b, off + (q + 1) * 5, none⟩ = some (.int .i64 y.nd)) (by kernel_rfl) (by kernel_rfl) (⟨Mk.drew1 _, k0, k1, p0, p1, p2, p3, d0, e0⟩) ?_
  change Wk _ _ _ _ 14 0 _
  first | (refine Wk.skip (m := 13) (k := 0) rfl (by rfl) ?_) | (refine Wk.step (m := 13) (k := 0) (v := _) rfl (by rfl) (fun wv hS => by obtain ⟨s0, s1, s2, s3, s4, s5, s6, s7, s8⟩ := hS; go_simp; try with_reducible rfl) ?_)
  try simp only [Act.put, List.getElem_toArray, List.getElem_cons_zero, List.setIfInBounds_toArray, List.set_cons_zero, List.set_cons_succ]
  first | (refine Wk.skip (m := 12) (k := 1) rfl (by rfl) ?_) | (refine Wk.step (m := 12) (k := 1) (v := _) rfl (by rfl) (fun wv hS => by obtain ⟨s0, s1, s2, s3, s4, s5, s6, s7, s8⟩ := hS; go_simp; try with_reducible rfl) ?_)
  try simp only [Act.put, List.getElem_toArray, List.getElem_cons_succ, List.getElem_cons_zero, List.setIfInBounds_toArray, List.set_cons_zero, List.set_cons_succ]
  first | (refine Wk.skip (m := 11) (k := 2) rfl (by rfl) ?_) | (refine Wk.step (m := 11) (k := 2) (v := _) rfl (by rfl) (fun wv hS => by obtain ⟨s0, s1, s2, s3, s4, s5, s6, s7, s8⟩ := hS; go_simp; try with_reducible rfl) ?_)
  try simp only [Act.put, List.getElem_toArray, List.getElem_cons_succ, List.getElem_cons_zero, List.setIfInBounds_toArray, List.set_cons_zero, List.set_cons_succ]
  first | (refine Wk.skip (m := 10) (k := 3) rfl (by rfl) ?_) | (refine Wk.step (m := 10) (k := 3) (v := _) rfl (by rfl) (fun wv hS => by obtain ⟨s0, s1, s2, s3, s4, s5, s6, s7, s8⟩ := hS; go_simp; try with_reducible rfl) ?_)
  try simp only [Act.put, List.getElem_toArray, List.getElem_cons_succ, List.getElem_cons_zero, List.setIfInBounds_toArray, List.set_cons_zero, List.set_cons_succ]
  first | (refine Wk.skip (m := 9) (k := 4) rfl (by rfl) ?_) | (refine Wk.step (m := 9) (k := 4) (v := _) rfl (by rfl) (fun wv hS => by obtain ⟨s0, s1, s2, s3, s4, s5, s6, s7, s8⟩ := hS; go_simp; try with_reducible rfl) ?_)
  try simp only [Act.put, List.getElem_toArray, List.getElem_cons_succ, List.getElem_cons_zero, List.setIfInBounds_toArray, List.set_cons_zero, List.set_cons_succ]
  first | (refine Wk.skip (m := 8) (k := 5) rfl (by rfl) ?_) | (refine Wk.step (m := 8) (k := 5) (v := _) rfl (by rfl) (fun wv hS => by obtain ⟨s0, s1, s2, s3, s4, s5, s6, s7, s8⟩ := hS; go_simp; try with_reducible rfl) ?_)
  try simp only [Act.put, List.getElem_toArray, List.getElem_cons_succ, List.getElem_cons_zero, List.setIfInBounds_toArray, List.set_cons_zero, List.set_cons_succ]
  first | (refine Wk.skip (m := 7) (k := 6) rfl (by rfl) ?_) | (refine Wk.step (m := 7) (k := 6) (v := _) rfl (by rfl) (fun wv hS => by obtain ⟨s0, s1, s2, s3, s4, s5, s6, s7, s8⟩ := hS; go_simp; try with_reducible rfl) ?_)
  try simp only [Act.put, List.getElem_toArray, List.getElem_cons_succ, List.getElem_cons_zero, List.setIfInBounds_toArray, List.set_cons_zero, List.set_cons_succ]
  first | (refine Wk.skip (m := 6) (k := 7) rfl (by rfl) ?_) | (refine Wk.step (m := 6) (k := 7) (v := _) rfl (by rfl) (fun wv hS => by obtain ⟨s0, s1, s2, s3, s4, s5, s6, s7, s8⟩ := hS; go_simp; try with_reducible rfl) ?_)
  try simp only [Act.put, List.getElem_toArray, List.getElem_cons_succ, List.getElem_cons_zero, List.setIfInBounds_toArray, List.set_cons_zero, List.set_cons_succ]
  refine Wk.call (m := 5) (k := 8) (v := .tuple #[.int .i64 R1, .int .i64 R2]) _ _ rfl (by rfl) (fun wv hS => by obtain ⟨s0, s1, s2, s3, s4, s5, s6, s7, s8⟩ := hS; go_simp; first | done | exact ⟨rfl, rfl⟩ | with_reducible rfl) (fun wv hS => ?_) ?_; · obtain ⟨s0, s1, s2, s3, s4, s5, s6, s7, s8⟩ := hS; refine (implRemote a0 a1 n0 c0 n1 c1 B zl x.nd O wv (hl.mk (M2.trans s0) hB (.inr (Nat.le_refl _))) (Nat.le_trans hB (M2.trans s0).size) hn1).mono ?_; rintro e w' ⟨he, mm⟩; exact ⟨by rw [he, ← hR1.out, ← hR2.out], ⟨s0.trans mm, mm.cellAt s1, mm.cellAt s2, mm.cellAt s3, mm.cellAt s4, mm.cellAt s5, mm.cellAt s6, mm.cellAt s7, mm.cellAt s8⟩⟩
  try simp only [Act.put, List.getElem_toArray, List.getElem_cons_succ, List.getElem_cons_zero, List.setIfInBounds_toArray, List.set_cons_zero, List.set_cons_succ]
  first | (refine Wk.skip (m := 4) (k := 9) rfl (by rfl) ?_) | (refine Wk.step (m := 4) (k := 9) (v := _) rfl (by rfl) (fun wv hS => by obtain ⟨s0, s1, s2, s3, s4, s5, s6, s7, s8⟩ := hS; go_simp; try with_reducible rfl) ?_)
  try simp only [Act.put, List.getElem_toArray, List.getElem_cons_succ, List.getElem_cons_zero, List.setIfInBounds_toArray, List.set_cons_zero, List.set_cons_succ]
  first | (refine Wk.skip (m := 3) (k := 10) rfl (by rfl) ?_) | (refine Wk.step (m := 3) (k := 10) (v := _) rfl (by rfl) (fun wv hS => by obtain ⟨s0, s1, s2, s3, s4, s5, s6, s7, s8⟩ := hS; go_simp; try with_reducible rfl) ?_)
  try simp only [Act.put, List.getElem_toArray, List.getElem_cons_succ, List.getElem_cons_zero, List.setIfInBounds_toArray, List.set_cons_zero, List.set_cons_succ]
  first | (refine Wk.skip (m := 2) (k := 11) rfl (by rfl) ?_) | (refine Wk.step (m := 2) (k := 11) (v := _) rfl (by rfl) (fun wv hS => by obtain ⟨s0, s1, s2, s3, s4, s5, s6, s7, s8⟩ := hS; go_simp; try with_reducible rfl) ?_)
  try simp only [Act.put, List.getElem_toArray, List.getElem_cons_succ, List.getElem_cons_zero, List.setIfInBounds_toArray, List.set_cons_zero, List.set_cons_succ]
  first | (refine Wk.skip (m := 1) (k := 12) rfl (by rfl) ?_) | (refine Wk.step (m := 1) (k := 12) (v := _) rfl (by rfl) (fun wv hS => by obtain ⟨s0, s1, s2, s3, s4, s5, s6, s7, s8⟩ := hS; go_simp; try with_reducible rfl) ?_)
  try simp only [Act.put, List.getElem_toArray, List.getElem_cons_succ, List.getElem_cons_zero, List.setIfInBounds_toArray, List.set_cons_zero, List.set_cons_succ]
  first | (refine Wk.skip (m := 0) (k := 13) rfl (by rfl) ?_) | (refine Wk.step (m := 0) (k := 13) (v := _) rfl (by rfl) (fun wv hS => by obtain ⟨s0, s1, s2, s3, s4, s5, s6, s7, s8⟩ := hS; go_simp; try with_reducible rfl) ?_)
  try simp only [Act.put, List.getElem_toArray, List.getElem_cons_succ, List.getElem_cons_zero, List.setIfInBounds_toArray, List.set_cons_zero, List.set_cons_succ]
  refine Wk.done fun wE hE => ?_
  clear k0 k1 p0 p1 p2 p3 d0 e0
  obtain ⟨mE, k0, k1, p0, p1, p2, p3, d0, e0⟩ := hE
  have M3 := M2.trans mE
  cases g0 : (O == 0)
  · have g0' : (O != 0) = true := by simp only [bne, g0]; rfl
    rw [g0'] at HR
    clear g0
    cases g1 : (R1 == y.nd)
    · rw [g1] at HR
      go_wp2_with fail
      go_ret
      exact ⟨retB HR.out.symm, M3⟩
    · rw [g1] at HR
      go_wp2_with fail
      refine (implPIn x0 x1 x2 _ n c B' zs ((q + 1 : Nat) : Int) _ (h.mk M3 hB' (.inr (Nat.le_refl _))) (Nat.le_trans hB' M3.size) hn).mono ?_
      rintro e w4 ⟨rfl, m4⟩
      rw [← hI.out]
      cases g2 : (R2 == I)
      · rw [g2] at HR
        go_wp2_with fail
        go_ret
        exact ⟨retB HR.out.symm, (M3.trans m4)⟩
      · rw [g2] at HR
        go_wp2_with fail
        go_ret
        exact ⟨retB HR.out.symm, (M3.trans m4)⟩
  · have g0' : (O != 0) = false := by simp only [bne, g0]; rfl
    rw [g0'] at HR
    clear g0
    go_wp2_with fail
    go_ret
    exact ⟨retB HR.out.symm, M3⟩

end Go.Proofs.YtifhhfndoifbhaaGreat
namespace Go.Proofs.YtifhhfndoifbhaaGreat
open Go.ChangeShapes Go.WideShapes Go.ChangeAt Go.RowKit
set_option linter.unusedVariables false
set_option maxRecDepth 100000 in
set_option maxHeartbeats 4000000 in
theorem implVPt (a0 a1 : Option Addr) (n0 c0 n1 c1 B : Nat) (zl : List TLink) (x0 x1 x2 : Int) (a : Option Addr) (n c B' : Nat) (zs : List THop) (w : World) (hl : HasLink w B a1 n1 zl) (hB : B ≤ w.heap.size) (hn0 : n0 ≤ 1048576) (hn1 : n1 ≤ 1048576) (h : HasHop w B' a n zs) (hB' : B' ≤ w.heap.size) (hn : n ≤ 1048576) :
    Calls Tryz.prog 60 #[.agg #[.slice a0 n0 c0, .slice a1 n1 c1], .agg #[.int .i64 x0, .int .i64 x1, .int .i64 x2, .slice a n c]] w fun e w' => e = .returned (.bool (vpB n0 zl n1 x0 x1 x2 zs n)) ∧ Mk0 w w' := by
  have M0 := (Mk.alloc w (Obj.cells #[Value.slice a0 n0 c0, Value.slice a1 n1 c1] 35)).new (Obj.cells #[Value.int .i64 x0, Value.int .i64 x1, Value.int .i64 x2, Value.slice a n c] 50)
  have k0 : ((w.alloc (Obj.cells #[Value.slice a0 n0 c0, Value.slice a1 n1 c1] 35)).alloc (Obj.cells #[Value.int .i64 x0, Value.int .i64 x1, Value.int .i64 x2, Value.slice a n c] 50)).cell? ⟨w.heap.size, 0, none⟩ = some (.slice a0 n0 c0) := by simp [go_sem]
  have k1 : ((w.alloc (Obj.cells #[Value.slice a0 n0 c0, Value.slice a1 n1 c1] 35)).alloc (Obj.cells #[Value.int .i64 x0, Value.int .i64 x1, Value.int .i64 x2, Value.slice a n c] 50)).cell? ⟨w.heap.size, 1, none⟩ = some (.slice a1 n1 c1) := by simp [go_sem]
  have p0 : ((w.alloc (Obj.cells #[Value.slice a0 n0 c0, Value.slice a1 n1 c1] 35)).alloc (Obj.cells #[Value.int .i64 x0, Value.int .i64 x1, Value.int .i64 x2, Value.slice a n c] 50)).cell? ⟨w.heap.size + 1, 0, none⟩ = some (.int .i64 x0) := by simp [go_sem]
  have p1 : ((w.alloc (Obj.cells #[Value.slice a0 n0 c0, Value.slice a1 n1 c1] 35)).alloc (Obj.cells #[Value.int .i64 x0, Value.int .i64 x1, Value.int .i64 x2, Value.slice a n c] 50)).cell? ⟨w.heap.size + 1, 1, none⟩ = some (.int .i64 x1) := by simp [go_sem]
  have p2 : ((w.alloc (Obj.cells #[Value.slice a0 n0 c0, Value.slice a1 n1 c1] 35)).alloc (Obj.cells #[Value.int .i64 x0, Value.int .i64 x1, Value.int .i64 x2, Value.slice a n c] 50)).cell? ⟨w.heap.size + 1, 2, none⟩ = some (.int .i64 x2) := by simp [go_sem]
  have p3 : ((w.alloc (Obj.cells #[Value.slice a0 n0 c0, Value.slice a1 n1 c1] 35)).alloc (Obj.cells #[Value.int .i64 x0, Value.int .i64 x1, Value.int .i64 x2, Value.slice a n c] 50)).cell? ⟨w.heap.size + 1, 3, none⟩ = some (.slice a n c) := by simp [go_sem]
  go_enter Tryz.func60, Tryz.ntmps60
  go_wp2_with fail
  refine (implPK x0 _).mono ?_
  rintro e w2 ⟨rfl, m2⟩
  replace k0 := m2.cellAt k0
  replace k1 := m2.cellAt k1
  replace p0 := m2.cellAt p0
  replace p1 := m2.cellAt p1
  replace p2 := m2.cellAt p2
  replace p3 := m2.cellAt p3
  have M2 := M0.trans m2
  cases g0 : inB x0 1 4
  · have HR := Lib.hid (show vpB n0 zl n1 x0 x1 x2 zs n = false by unfold vpB vpH; rw [g0]; rfl)
    go_wp2_with fail
    go_ret
    exact ⟨retB HR.out.symm, M2⟩
  · go_wp2_with fail
    refine (implTime x1 _).mono ?_
    rintro e w' ⟨rfl, rfl⟩
    cases g1 : inB x1 0 1000000
    · have HR := Lib.hid (show vpB n0 zl n1 x0 x1 x2 zs n = false by unfold vpB vpH; rw [g0, g1]; rfl)
      go_wp2_with fail
      go_ret
      exact ⟨retB HR.out.symm, M2⟩
    · go_wp2_with fail
      refine (implRes x2 _).mono ?_
      rintro e w' ⟨rfl, rfl⟩
      cases g2 : inB x2 0 2147483646
      · have HR := Lib.hid (show vpB n0 zl n1 x0 x1 x2 zs n = false by unfold vpB vpH; rw [g0, g1, g2]; rfl)
        go_wp2_with fail
        go_ret
        exact ⟨retB HR.out.symm, M2⟩
      · go_wp2_with fail
        refine (implIn (n : Int) 1 8 _).mono ?_
        rintro e w' ⟨rfl, rfl⟩
        cases g3 : inB (n : Int) 1 8
        · have HR := Lib.hid (show vpB n0 zl n1 x0 x1 x2 zs n = false by unfold vpB vpH; rw [g0, g1, g2, g3]; rfl)
          go_wp2_with fail
          go_ret
          exact ⟨retB HR.out.symm, M2⟩
        · have HR := Lib.hid (show vpB n0 zl n1 x0 x1 x2 zs n = allN (vpI n0 zl n1 x0 zs n) n by unfold vpB vpH; rw [g0, g1, g2, g3]; rfl)
          have hn8 : n ≤ 8 := by unfold inB at g3; have := of_decide_eq_true g3; omega
          clear g0 g1 g2 g3
          go_wp2_with fail
          go_loopw [4, 5, 34] (fun r v i wr => r = .bool false ∧ ∃ k : Nat, k ≤ n ∧ i = .int .i64 k ∧ v = .int .i64 (seenS (ndAt zs) k) ∧ Hid (allN (vpI n0 zl n1 x0 zs n) k = true) ∧ Mk0 w2 wr) (fun _ _ i _ => n - (intOf i).toNat)
          case atStart => exact ⟨rfl, 0, Nat.zero_le _, rfl, rfl, rfl, Mk.refl _ _ _⟩
          case round =>
            obtain ⟨rfl, k, hk, rfl, rfl, hS, hM⟩ := hrel
            replace k0 := hM.cellAt k0
            replace k1 := hM.cellAt k1
            replace p0 := hM.cellAt p0
            replace p1 := hM.cellAt p1
            replace p2 := hM.cellAt p2
            replace p3 := hM.cellAt p3
            have hM' := M2.trans hM
            by_cases hlt : k < n
            · obtain ⟨b, off, x, eb, hb2, hx, d0, d1, d2, d3, d4⟩ := HasHop.at _ _ _ _ _ _ (h.mk hM' hB' (.inr (Nat.le_refl _))) hlt
              subst eb
              have hbr := World.block_lt_of_cell? _ _ d0
              have hbq := World.block_lt_of_cell? _ _ k0
              have hbj := World.block_lt_of_cell? _ _ p3
              simp only at hbr hbq hbj
              have i1 : (0 : Int) ≤ (k : Int) := by omega
              have i2 : (k : Int) < (n : Int) := by omega
              have MX := Mk.alloc wr (Obj.cells #[Value.int .i64 x.nd, Value.int .i64 x.ing, Value.int .i64 x.eg, Value.int .i64 x.exp, Value.int .i64 x.mac] 53)
              have q0 : (wr.alloc (Obj.cells #[Value.int .i64 x.nd, Value.int .i64 x.ing, Value.int .i64 x.eg, Value.int .i64 x.exp, Value.int .i64 x.mac] 53)).cell? ⟨wr.heap.size, 0, none⟩ = some (.int .i64 x.nd) := by simp [go_sem]
              have q1 : (wr.alloc (Obj.cells #[Value.int .i64 x.nd, Value.int .i64 x.ing, Value.int .i64 x.eg, Value.int .i64 x.exp, Value.int .i64 x.mac] 53)).cell? ⟨wr.heap.size, 1, none⟩ = some (.int .i64 x.ing) := by simp [go_sem]
              have q2 : (wr.alloc (Obj.cells #[Value.int .i64 x.nd, Value.int .i64 x.ing, Value.int .i64 x.eg, Value.int .i64 x.exp, Value.int .i64 x.mac] 53)).cell? ⟨wr.heap.size, 2, none⟩ = some (.int .i64 x.eg) := by simp [go_sem]
              have q3 : (wr.alloc (Obj.cells #[Value.int .i64 x.nd, Value.int .i64 x.ing, Value.int .i64 x.eg, Value.int .i64 x.exp, Value.int .i64 x.mac] 53)).cell? ⟨wr.heap.size, 3, none⟩ = some (.int .i64 x.exp) := by simp [go_sem]
              have q4 : (wr.alloc (Obj.cells #[Value.int .i64 x.nd, Value.int .i64 x.ing, Value.int .i64 x.eg, Value.int .i64 x.exp, Value.int .i64 x.mac] 53)).cell? ⟨wr.heap.size, 4, none⟩ = some (.int .i64 x.mac) := by simp [go_sem]
              replace k0 := MX.cellAt k0
              replace k1 := MX.cellAt k1
              replace p0 := MX.cellAt p0
              replace p1 := MX.cellAt p1
              replace p2 := MX.cellAt p2
              replace p3 := MX.cellAt p3
              have MR := hM'.trans MX
              have hMX := hM.trans MX
              go_wp2_with fail
              refine (implVHop x.nd x.ing x.eg x.exp x.mac _).mono ?_
              rintro e w3 ⟨he, m3⟩
              replace he := he.trans (show _ = Ending.returned (.bool (hopOk x)) from rfl)
              subst he
              replace k0 := m3.cellAt k0
              replace k1 := m3.cellAt k1
              replace p0 := m3.cellAt p0
              replace p1 := m3.cellAt p1
              replace p2 := m3.cellAt p2
              replace p3 := m3.cellAt p3
              replace q0 := m3.cellAt q0
              replace q1 := m3.cellAt q1
              replace q2 := m3.cellAt q2
              replace q3 := m3.cellAt q3
              replace q4 := m3.cellAt q4
              have M3 := MR.trans m3
              have N3 := hMX.trans m3
              cases hA : hopOk x
              · have HE := Lib.hid (allN_stop (p := vpI n0 zl n1 x0 zs n) (n := n) (show vpI n0 zl n1 x0 zs n k = false by unfold vpI; rw [← hx.out, hA]; rfl) hlt)
                go_wp2_with fail
                go_ret
                exact ⟨retB (by rw [HR.out, HE.out]), M3⟩
              · have hnd := hA
                simp only [hopOk, decide_eq_true_eq] at hnd
                replace hnd := hnd.1
                have HA := Lib.hid hA
                clear hA
                go_wp2_with fail
                refine (implIsAS a0 a1 n0 c0 n1 c1 x.nd _ hn0).mono ?_
                rintro e w4 ⟨rfl, m4⟩
                replace k0 := m4.cellAt k0
                replace k1 := m4.cellAt k1
                replace p0 := m4.cellAt p0
                replace p1 := m4.cellAt p1
                replace p2 := m4.cellAt p2
                replace p3 := m4.cellAt p3
                replace q0 := m4.cellAt q0
                replace q1 := m4.cellAt q1
                replace q2 := m4.cellAt q2
                replace q3 := m4.cellAt q3
                replace q4 := m4.cellAt q4
                have M4 := M3.trans m4
                have N4 := N3.trans m4
                cases hB2 : isAsB n0 x.nd
                · have HE := Lib.hid (allN_stop (p := vpI n0 zl n1 x0 zs n) (n := n) (show vpI n0 zl n1 x0 zs n k = false by unfold vpI; rw [← hx.out, HA.out, hB2]; rfl) hlt)
                  go_wp2_with fail
                  go_ret
                  exact ⟨retB (by rw [HR.out, HE.out]), M4⟩
                · have HBq := Lib.hid hB2
                  clear hB2
                  have hso := seenS_ok (ndAt zs) k (vp_nd hS.out)
                  have HH := Lib.hid (hso.2 x.nd (by omega) (by omega))
                  clear hso
                  obtain ⟨S, hSS⟩ : ∃ S, Hid (S = seenS (ndAt zs) k) := ⟨_, Lib.hid rfl⟩
                  rw [← hSS.out] at HH ⊢
                  go_wp2_with fail
                  refine (implContains S x.nd _).mono ?_
                  rintro e w' ⟨rfl, rfl⟩
                  rw [HH.out]
                  cases hC : inUp (ndAt zs) x.nd k
                  · have HCq := Lib.hid hC
                    clear hC
                    have HV := Lib.hid (show seenS (ndAt zs) (k + 1) = addV S x.nd by rw [hSS.out, seenS]; unfold ndAt; rw [← hx.out])
                    rcases Nat.eq_zero_or_pos k with hk0 | hk0
                    · have hkb : (k == 0) = true := by simp [hk0]
                      have hk1 : decide ((0 : Int) < (k : Int)) = false := decide_eq_false (by omega)
                      have hk1n : decide (0 < k) = false := decide_eq_false (by omega)
                      have HE := Lib.hid (allN_go hS.out (show vpI n0 zl n1 x0 zs n k = true by unfold vpI; rw [← hx.out, HA.out, HBq.out, HCq.out, hkb]; rfl))
                      clear hk0 hkb
                      have hbE := World.block_lt_of_cell? _ _ q0
                      simp only at hbE
                      go_wp2_with fail
                      refine (implAddElement S x.nd _).mono ?_
                      rintro e w' ⟨rfl, rfl⟩
                      go_wp2_with fail
                      go_roundw
                      case rel => exact ⟨rfl, k + 1, by omega, by go_num, congrArg (Value.int .i64) HV.out.symm, HE.out, N4⟩
                      case measure => simp [intOf]; omega
                    · obtain ⟨q, hq⟩ : ∃ q, Hid (k = q + 1) := ⟨k - 1, by show k = k - 1 + 1; omega⟩
                      have hw3 : IntKind.i64.wrap ((k : Int) - 1) = (q : Int) := by rw [IntKind.wrap_i64]; have := hq.out; omega
                      have hw3' : (k : Int) - 1 = (q : Int) := by have := hq.out; omega
                      have hqn : q + 1 < n := by have := hq.out; omega
                      have hkb : (k == 0) = false := by simp; omega
                      have hqk := Lib.hid (show q = k - 1 by have := hq.out; omega)
                      have hk1 : decide ((0 : Int) < (k : Int)) = true := decide_eq_true (by omega)
                      have hk1n : decide (0 < k) = true := decide_eq_true (by omega)
                      have HW3 := Lib.hid hw3'
                      clear hw3' hw3
                      go_wp2_with fail
                      rw [HW3.out]
                      refine (implLeads a0 a1 n0 c0 n1 c1 B zl x0 x1 x2 _ n c B' zs q _ (hl.mk M4 hB (.inr (Nat.le_refl _))) (Nat.le_trans hB M4.size) hn1 (h.mk M4 hB' (.inr (Nat.le_refl _))) (Nat.le_trans hB' M4.size) hn hqn).mono ?_
                      rintro e w5 ⟨rfl, m5⟩
                      replace k0 := m5.cellAt k0
                      replace k1 := m5.cellAt k1
                      replace p0 := m5.cellAt p0
                      replace p1 := m5.cellAt p1
                      replace p2 := m5.cellAt p2
                      replace p3 := m5.cellAt p3
                      replace q0 := m5.cellAt q0
                      replace q1 := m5.cellAt q1
                      replace q2 := m5.cellAt q2
                      replace q3 := m5.cellAt q3
                      replace q4 := m5.cellAt q4
                      have M5 := M4.trans m5
                      have N5 := N4.trans m5
                      cases hL : leadB zl n1 x0 zs n q
                      · have HE := Lib.hid (allN_stop (p := vpI n0 zl n1 x0 zs n) (n := n) (show vpI n0 zl n1 x0 zs n k = false by unfold vpI; rw [← hx.out, HA.out, HBq.out, HCq.out, hkb, ← hqk.out, hL]; rfl) hlt)
                        go_wp2_with fail
                        go_ret
                        exact ⟨retB (by rw [HR.out, HE.out]), M5⟩
                      · have HE := Lib.hid (allN_go hS.out (show vpI n0 zl n1 x0 zs n k = true by unfold vpI; rw [← hx.out, HA.out, HBq.out, HCq.out, hkb, ← hqk.out, hL]; rfl))
                        clear hL hkb
                        have hbE := World.block_lt_of_cell? _ _ q0
                        simp only at hbE
                        go_wp2_with fail
                        refine (implAddElement S x.nd _).mono ?_
                        rintro e w' ⟨rfl, rfl⟩
                        go_wp2_with fail
                        go_roundw
                        case rel => exact ⟨rfl, k + 1, by omega, by go_num, congrArg (Value.int .i64) HV.out.symm, HE.out, N5⟩
                        case measure => simp [intOf]; omega
                  · have HE := Lib.hid (allN_stop (p := vpI n0 zl n1 x0 zs n) (n := n) (show vpI n0 zl n1 x0 zs n k = false by unfold vpI; rw [← hx.out, HA.out, HBq.out, hC]; rfl) hlt)
                    go_wp2_with fail
                    go_ret
                    exact ⟨retB (by rw [HR.out, HE.out]), M4⟩
            · obtain rfl : k = n := by omega
              go_wp2_with fail
              go_ret
              exact ⟨retB (by rw [HR.out, hS.out]), hM'⟩

end Go.Proofs.YtifhhfndoifbhaaGreat
namespace Go.Proofs.YtifhhfndoifbhaaGreat
open Go.ChangeShapes Go.WideShapes Go.ChangeAt Go.RowKit
set_option linter.unusedVariables false
set_option maxRecDepth 100000 in
set_option maxHeartbeats 4000000 in
theorem specVPt (a0 a1 : Option Addr) (n0 c0 n1 c1 B : Nat) (zl : List TLink) (x0 x1 x2 : Int) (a : Option Addr) (n c B' : Nat) (zs : List THop) (w : World) (hl : HasLink w B a1 n1 zl) (hB : B ≤ w.heap.size) (hn0 : n0 ≤ 1048576) (hn1 : n1 ≤ 1048576) (h : HasHop w B' a n zs) (hB' : B' ≤ w.heap.size) (hn : n ≤ 1048576) :
    Calls Tryz.prog 53 #[.agg #[.slice a0 n0 c0, .slice a1 n1 c1], .agg #[.int .i64 x0, .int .i64 x1, .int .i64 x2, .slice a n c]] w fun e w' => e = .returned (.bool (vpB n0 zl n1 x0 x1 x2 zs n)) ∧ Mk0 w w' := by
  have M0 := (Mk.alloc w (Obj.cells #[Value.slice a0 n0 c0, Value.slice a1 n1 c1] 35)).new (Obj.cells #[Value.int .i64 x0, Value.int .i64 x1, Value.int .i64 x2, Value.slice a n c] 50)
  have k0 : ((w.alloc (Obj.cells #[Value.slice a0 n0 c0, Value.slice a1 n1 c1] 35)).alloc (Obj.cells #[Value.int .i64 x0, Value.int .i64 x1, Value.int .i64 x2, Value.slice a n c] 50)).cell? ⟨w.heap.size, 0, none⟩ = some (.slice a0 n0 c0) := by simp [go_sem]
  have k1 : ((w.alloc (Obj.cells #[Value.slice a0 n0 c0, Value.slice a1 n1 c1] 35)).alloc (Obj.cells #[Value.int .i64 x0, Value.int .i64 x1, Value.int .i64 x2, Value.slice a n c] 50)).cell? ⟨w.heap.size, 1, none⟩ = some (.slice a1 n1 c1) := by simp [go_sem]
  have p0 : ((w.alloc (Obj.cells #[Value.slice a0 n0 c0, Value.slice a1 n1 c1] 35)).alloc (Obj.cells #[Value.int .i64 x0, Value.int .i64 x1, Value.int .i64 x2, Value.slice a n c] 50)).cell? ⟨w.heap.size + 1, 0, none⟩ = some (.int .i64 x0) := by simp [go_sem]
  have p1 : ((w.alloc (Obj.cells #[Value.slice a0 n0 c0, Value.slice a1 n1 c1] 35)).alloc (Obj.cells #[Value.int .i64 x0, Value.int .i64 x1, Value.int .i64 x2, Value.slice a n c] 50)).cell? ⟨w.heap.size + 1, 1, none⟩ = some (.int .i64 x1) := by simp [go_sem]
  have p2 : ((w.alloc (Obj.cells #[Value.slice a0 n0 c0, Value.slice a1 n1 c1] 35)).alloc (Obj.cells #[Value.int .i64 x0, Value.int .i64 x1, Value.int .i64 x2, Value.slice a n c] 50)).cell? ⟨w.heap.size + 1, 2, none⟩ = some (.int .i64 x2) := by simp [go_sem]
  have p3 : ((w.alloc (Obj.cells #[Value.slice a0 n0 c0, Value.slice a1 n1 c1] 35)).alloc (Obj.cells #[Value.int .i64 x0, Value.int .i64 x1, Value.int .i64 x2, Value.slice a n c] 50)).cell? ⟨w.heap.size + 1, 3, none⟩ = some (.slice a n c) := by simp [go_sem]
  go_enter Tryz.func53, Tryz.ntmps53
  go_wp2_with fail
  refine (specIn (n : Int) 1 8 _).mono ?_
  rintro e w' ⟨rfl, rfl⟩
  cases g3 : inB (n : Int) 1 8
  · have HR := Lib.hid (show vpB n0 zl n1 x0 x1 x2 zs n = false by unfold vpB vpH; simp [g3])
    go_wp2_with fail
    go_ret
    exact ⟨retB HR.out.symm, M0⟩
  · have hn8 : 1 ≤ n ∧ n ≤ 8 := by unfold inB at g3; have := of_decide_eq_true g3; omega
    have G3 := Lib.hid g3
    clear g3
    go_wp2_with fail
    refine (specIn x0 1 4 _).mono ?_
    rintro e w' ⟨rfl, rfl⟩
    cases g0 : inB x0 1 4
    · have HR := Lib.hid (show vpB n0 zl n1 x0 x1 x2 zs n = false by unfold vpB vpH; simp [g0])
      go_wp2_with fail
      go_ret
      exact ⟨retB HR.out.symm, M0⟩
    · have G0 := Lib.hid g0
      clear g0
      go_wp2_with fail
      refine (specIn x1 0 1000000 _).mono ?_
      rintro e w' ⟨rfl, rfl⟩
      cases g1 : inB x1 0 1000000
      · have HR := Lib.hid (show vpB n0 zl n1 x0 x1 x2 zs n = false by unfold vpB vpH; simp [g1])
        go_wp2_with fail
        go_ret
        exact ⟨retB HR.out.symm, M0⟩
      · have G1 := Lib.hid g1
        clear g1
        go_wp2_with fail
        refine (specRes x2 _).mono ?_
        rintro e w' ⟨rfl, rfl⟩
        cases g2 : inB x2 0 2147483646
        · have HR := Lib.hid (show vpB n0 zl n1 x0 x1 x2 zs n = false by unfold vpB vpH; simp [g2])
          go_wp2_with fail
          go_ret
          exact ⟨retB HR.out.symm, M0⟩
        · have HR := Lib.hid (show vpB n0 zl n1 x0 x1 x2 zs n = allN (vpI n0 zl n1 x0 zs n) n by unfold vpB vpH; rw [G0.out, G1.out, g2, G3.out]; rfl)
          clear g2 G0 G1 G3
          go_wp2_with fail
          refine (specRealms x0 x1 x2 a n c B' zs _ (h.mk M0 hB' (.inr (Nat.le_refl _))) (Nat.le_trans hB' M0.size) hn).mono ?_
          rintro e w2 ⟨v2, rfl, ow, m2⟩
          replace k0 := m2.cellAt k0
          replace k1 := m2.cellAt k1
          replace p0 := m2.cellAt p0
          replace p1 := m2.cellAt p1
          replace p2 := m2.cellAt p2
          replace p3 := m2.cellAt p3
          have M2 := M0.trans m2
          obtain ⟨A, cc, rfl, hcA, hcc⟩ := ownsRow_sliceR2 ow
          rw [colN_len] at hcc ow ⊢
          have hI := (ownsRow_own ow).has
          clear ow m2 hcA
          obtain ⟨bI, oI, eA, hbI, hcI⟩ := hI.2 (by omega)
          subst eA
          have HI0 := Lib.hid hI
          have HC := Lib.hid hcI
          clear hI hcI
          have hN2 : (0 : Int) ≤ (n : Int) := by omega
          go_wp2_with fail
          go_loopw [4, 6] (fun r i wr => r = .bool false ∧ ∃ k : Nat, k ≤ n ∧ i = .int .i64 k ∧ Hid (allN (vpI n0 zl n1 x0 zs n) k = true) ∧ Mk0 w2 wr) (fun _ i _ => n - (intOf i).toNat)
          case atStart => exact ⟨rfl, 0, Nat.zero_le _, rfl, rfl, Mk.refl _ _ _⟩
          case round =>
            obtain ⟨rfl, k, hk, rfl, hS, hM⟩ := hrel
            replace k0 := hM.cellAt k0
            replace k1 := hM.cellAt k1
            replace p0 := hM.cellAt p0
            replace p1 := hM.cellAt p1
            replace p2 := hM.cellAt p2
            replace p3 := hM.cellAt p3
            have hM' := M2.trans hM
            by_cases hlt : k < n
            · obtain ⟨b, off, x, eb, hb2, hx, d0, d1, d2, d3, d4⟩ := HasHop.at _ _ _ _ _ _ (h.mk hM' hB' (.inr (Nat.le_refl _))) hlt
              subst eb
              have ci : wr.cell? ⟨bI, oI + k, none⟩ = some (.int .i64 x.nd) := by have h1 := hM.cellAt (HC.out k hlt); rw [colN_get _ _ _ _ hlt, ← hx.out] at h1; exact h1
              have i1 : (0 : Int) ≤ (k : Int) := by omega
              have i2 : (k : Int) < (n : Int) := by omega
              have i3 : (k : Int) ≤ (cc : Int) := by omega
              have hcong : inUp (fun j => (colN THop.nd zs k).getD j 0) x.nd k = inUp (ndAt zs) x.nd k := inUp_congr k fun j hj => colN_get _ _ _ _ hj
              have HI := Lib.hid (fun (wv : World) (m : Mk0 wr wv) => show Has .i64 wv w2.heap.size (some ⟨bI, oI, none⟩) k (colN THop.nd zs k) from ⟨colN_len _ _ _, fun hk0 => ⟨bI, oI, rfl, hbI, fun i hi => by rw [colN_get _ _ _ _ hi, ← colN_get THop.nd zs n i (by omega)]; exact (hM.trans m).cellAt (HC.out i (by omega))⟩⟩)
              cases hA : hopOk x
              · have HE := Lib.hid (allN_stop (p := vpI n0 zl n1 x0 zs n) (n := n) (show vpI n0 zl n1 x0 zs n k = false by unfold vpI; rw [← hx.out, hA]; rfl) hlt)
                have HA := Lib.hid hA
                clear hA hcong
                go_wp2_with fail
                refine wp_region_wk (fun w' => Mk0 wr w' ∧ w'.cell? ⟨w.heap.size, 0, none⟩ = some (.slice a0 n0 c0) ∧ w'.cell? ⟨w.heap.size, 1, none⟩ = some (.slice a1 n1 c1) ∧ w'.cell? ⟨w.heap.size + 1, 3, none⟩ = some (.slice (some ⟨b, off, none⟩) n c) ∧ w'.cell? ⟨b, off + k * 5, none⟩ = some (.int .i64 x.nd) ∧ w'.cell? ⟨b, off + k * 5 + 1, none⟩ = some (.int .i64 x.ing) ∧ w'.cell? ⟨b, off + k * 5 + 2, none⟩ = some (.int .i64 x.eg) ∧ w'.cell? ⟨b, off + k * 5 + 3, none⟩ = some (.int .i64 x.exp) ∧ w'.cell? ⟨b, off + k * 5 + 4, none⟩ = some (.int .i64 x.mac) ∧ w'.cell? ⟨bI, oI + k, none⟩ = some (.int .i64 x.nd)) (by kernel_rfl) (by kernel_rfl) (⟨Mk.drew1 _, k0, k1, p3, d0, d1, d2, d3, d4, ci⟩) ?_
                change Wk _ _ _ _ 26 0 _
                first | (refine Wk.skip (m := 25) (k := 0) rfl (by rfl) ?_) | (refine Wk.step (m := 25) (k := 0) (v := _) rfl (by rfl) (fun wv hS => by obtain ⟨s0, s1, s2, s3, s4, s5, s6, s7, s8, s9⟩ := hS; go_simp; try with_reducible rfl) ?_)
                try simp only [Act.put, List.getElem_toArray, List.getElem_cons_zero, List.setIfInBounds_toArray, List.set_cons_zero, List.set_cons_succ]
                first | (refine Wk.skip (m := 24) (k := 1) rfl (by rfl) ?_) | (refine Wk.step (m := 24) (k := 1) (v := _) rfl (by rfl) (fun wv hS => by obtain ⟨s0, s1, s2, s3, s4, s5, s6, s7, s8, s9⟩ := hS; go_simp; try with_reducible rfl) ?_)
                try simp only [Act.put, List.getElem_toArray, List.getElem_cons_succ, List.getElem_cons_zero, List.setIfInBounds_toArray, List.set_cons_zero, List.set_cons_succ]
                first | (refine Wk.skip (m := 23) (k := 2) rfl (by rfl) ?_) | (refine Wk.step (m := 23) (k := 2) (v := _) rfl (by rfl) (fun wv hS => by obtain ⟨s0, s1, s2, s3, s4, s5, s6, s7, s8, s9⟩ := hS; go_simp; try with_reducible rfl) ?_)
                try simp only [Act.put, List.getElem_toArray, List.getElem_cons_succ, List.getElem_cons_zero, List.setIfInBounds_toArray, List.set_cons_zero, List.set_cons_succ]
                first | (refine Wk.skip (m := 22) (k := 3) rfl (by rfl) ?_) | (refine Wk.step (m := 22) (k := 3) (v := _) rfl (by rfl) (fun wv hS => by obtain ⟨s0, s1, s2, s3, s4, s5, s6, s7, s8, s9⟩ := hS; go_simp; try with_reducible rfl) ?_)
                try simp only [Act.put, List.getElem_toArray, List.getElem_cons_succ, List.getElem_cons_zero, List.setIfInBounds_toArray, List.set_cons_zero, List.set_cons_succ]
                first | (refine Wk.skip (m := 21) (k := 4) rfl (by rfl) ?_) | (refine Wk.step (m := 21) (k := 4) (v := _) rfl (by rfl) (fun wv hS => by obtain ⟨s0, s1, s2, s3, s4, s5, s6, s7, s8, s9⟩ := hS; go_simp; try with_reducible rfl) ?_)
                try simp only [Act.put, List.getElem_toArray, List.getElem_cons_succ, List.getElem_cons_zero, List.setIfInBounds_toArray, List.set_cons_zero, List.set_cons_succ]
                refine Wk.call (m := 20) (k := 5) (v := .bool false) _ _ rfl (by rfl) (fun wv hS => by obtain ⟨s0, s1, s2, s3, s4, s5, s6, s7, s8, s9⟩ := hS; go_simp; first | done | exact ⟨rfl, rfl⟩ | with_reducible rfl) (fun wv hS => ?_) ?_; · obtain ⟨s0, s1, s2, s3, s4, s5, s6, s7, s8, s9⟩ := hS; refine (specVHop x.nd x.ing x.eg x.exp x.mac wv).mono ?_; rintro e w' ⟨he, mm⟩; exact ⟨by rw [he, HA.out], ⟨s0.trans mm, mm.cellAt s1, mm.cellAt s2, mm.cellAt s3, mm.cellAt s4, mm.cellAt s5, mm.cellAt s6, mm.cellAt s7, mm.cellAt s8, mm.cellAt s9⟩⟩
                try simp only [Act.put, List.getElem_toArray, List.getElem_cons_succ, List.getElem_cons_zero, List.setIfInBounds_toArray, List.set_cons_zero, List.set_cons_succ]
                first | (refine Wk.skip (m := 19) (k := 6) rfl (by rfl) ?_) | (refine Wk.step (m := 19) (k := 6) (v := _) rfl (by rfl) (fun wv hS => by obtain ⟨s0, s1, s2, s3, s4, s5, s6, s7, s8, s9⟩ := hS; go_simp; try with_reducible rfl) ?_)
                try simp only [Act.put, List.getElem_toArray, List.getElem_cons_succ, List.getElem_cons_zero, List.setIfInBounds_toArray, List.set_cons_zero, List.set_cons_succ]
                first | (refine Wk.skip (m := 18) (k := 7) rfl (by rfl) ?_) | (refine Wk.step (m := 18) (k := 7) (v := _) rfl (by rfl) (fun wv hS => by obtain ⟨s0, s1, s2, s3, s4, s5, s6, s7, s8, s9⟩ := hS; go_simp; try with_reducible rfl) ?_)
                try simp only [Act.put, List.getElem_toArray, List.getElem_cons_succ, List.getElem_cons_zero, List.setIfInBounds_toArray, List.set_cons_zero, List.set_cons_succ]
                first | (refine Wk.skip (m := 17) (k := 8) rfl (by rfl) ?_) | (refine Wk.step (m := 17) (k := 8) (v := _) rfl (by rfl) (fun wv hS => by obtain ⟨s0, s1, s2, s3, s4, s5, s6, s7, s8, s9⟩ := hS; go_simp; try with_reducible rfl) ?_)
                try simp only [Act.put, List.getElem_toArray, List.getElem_cons_succ, List.getElem_cons_zero, List.setIfInBounds_toArray, List.set_cons_zero, List.set_cons_succ]
                first | (refine Wk.skip (m := 16) (k := 9) rfl (by rfl) ?_) | (refine Wk.step (m := 16) (k := 9) (v := _) rfl (by rfl) (fun wv hS => by obtain ⟨s0, s1, s2, s3, s4, s5, s6, s7, s8, s9⟩ := hS; go_simp; try with_reducible rfl) ?_)
                try simp only [Act.put, List.getElem_toArray, List.getElem_cons_succ, List.getElem_cons_zero, List.setIfInBounds_toArray, List.set_cons_zero, List.set_cons_succ]
                first | (refine Wk.skip (m := 15) (k := 10) rfl (by rfl) ?_) | (refine Wk.step (m := 15) (k := 10) (v := _) rfl (by rfl) (fun wv hS => by obtain ⟨s0, s1, s2, s3, s4, s5, s6, s7, s8, s9⟩ := hS; go_simp; try with_reducible rfl) ?_)
                try simp only [Act.put, List.getElem_toArray, List.getElem_cons_succ, List.getElem_cons_zero, List.setIfInBounds_toArray, List.set_cons_zero, List.set_cons_succ]
                first | (refine Wk.skip (m := 14) (k := 11) rfl (by rfl) ?_) | (refine Wk.step (m := 14) (k := 11) (v := _) rfl (by rfl) (fun wv hS => by obtain ⟨s0, s1, s2, s3, s4, s5, s6, s7, s8, s9⟩ := hS; go_simp; try with_reducible rfl) ?_)
                try simp only [Act.put, List.getElem_toArray, List.getElem_cons_succ, List.getElem_cons_zero, List.setIfInBounds_toArray, List.set_cons_zero, List.set_cons_succ]
                first | (refine Wk.skip (m := 13) (k := 12) rfl (by rfl) ?_) | (refine Wk.step (m := 13) (k := 12) (v := _) rfl (by rfl) (fun wv hS => by obtain ⟨s0, s1, s2, s3, s4, s5, s6, s7, s8, s9⟩ := hS; go_simp; try with_reducible rfl) ?_)
                try simp only [Act.put, List.getElem_toArray, List.getElem_cons_succ, List.getElem_cons_zero, List.setIfInBounds_toArray, List.set_cons_zero, List.set_cons_succ]
                refine Wk.skip (m := 12) (k := 13) rfl (by rfl) ?_
                try simp only [Act.put, List.getElem_toArray, List.getElem_cons_succ, List.getElem_cons_zero, List.setIfInBounds_toArray, List.set_cons_zero, List.set_cons_succ]
                first | (refine Wk.skip (m := 11) (k := 14) rfl (by rfl) ?_) | (refine Wk.step (m := 11) (k := 14) (v := _) rfl (by rfl) (fun wv hS => by obtain ⟨s0, s1, s2, s3, s4, s5, s6, s7, s8, s9⟩ := hS; go_simp; try with_reducible rfl) ?_)
                try simp only [Act.put, List.getElem_toArray, List.getElem_cons_succ, List.getElem_cons_zero, List.setIfInBounds_toArray, List.set_cons_zero, List.set_cons_succ]
                first | (refine Wk.skip (m := 10) (k := 15) rfl (by rfl) ?_) | (refine Wk.step (m := 10) (k := 15) (v := _) rfl (by rfl) (fun wv hS => by obtain ⟨s0, s1, s2, s3, s4, s5, s6, s7, s8, s9⟩ := hS; go_simp; try with_reducible rfl) ?_)
                try simp only [Act.put, List.getElem_toArray, List.getElem_cons_succ, List.getElem_cons_zero, List.setIfInBounds_toArray, List.set_cons_zero, List.set_cons_succ]
                first | (refine Wk.skip (m := 9) (k := 16) rfl (by rfl) ?_) | (refine Wk.step (m := 9) (k := 16) (v := _) rfl (by rfl) (fun wv hS => by obtain ⟨s0, s1, s2, s3, s4, s5, s6, s7, s8, s9⟩ := hS; go_simp; try with_reducible rfl) ?_)
                try simp only [Act.put, List.getElem_toArray, List.getElem_cons_succ, List.getElem_cons_zero, List.setIfInBounds_toArray, List.set_cons_zero, List.set_cons_succ]
                first | (refine Wk.skip (m := 8) (k := 17) rfl (by rfl) ?_) | (refine Wk.step (m := 8) (k := 17) (v := _) rfl (by rfl) (fun wv hS => by obtain ⟨s0, s1, s2, s3, s4, s5, s6, s7, s8, s9⟩ := hS; go_simp; try with_reducible rfl) ?_)
                try simp only [Act.put, List.getElem_toArray, List.getElem_cons_succ, List.getElem_cons_zero, List.setIfInBounds_toArray, List.set_cons_zero, List.set_cons_succ]
                first | (refine Wk.skip (m := 7) (k := 18) rfl (by rfl) ?_) | (refine Wk.step (m := 7) (k := 18) (v := _) rfl (by rfl) (fun wv hS => by obtain ⟨s0, s1, s2, s3, s4, s5, s6, s7, s8, s9⟩ := hS; go_simp; try with_reducible rfl) ?_)
                try simp only [Act.put, List.getElem_toArray, List.getElem_cons_succ, List.getElem_cons_zero, List.setIfInBounds_toArray, List.set_cons_zero, List.set_cons_succ]
                first | (refine Wk.skip (m := 6) (k := 19) rfl (by rfl) ?_) | (refine Wk.step (m := 6) (k := 19) (v := _) rfl (by rfl) (fun wv hS => by obtain ⟨s0, s1, s2, s3, s4, s5, s6, s7, s8, s9⟩ := hS; go_simp; try with_reducible rfl) ?_)
                try simp only [Act.put, List.getElem_toArray, List.getElem_cons_succ, List.getElem_cons_zero, List.setIfInBounds_toArray, List.set_cons_zero, List.set_cons_succ]
                first | (refine Wk.skip (m := 5) (k := 20) rfl (by rfl) ?_) | (refine Wk.step (m := 5) (k := 20) (v := _) rfl (by rfl) (fun wv hS => by obtain ⟨s0, s1, s2, s3, s4, s5, s6, s7, s8, s9⟩ := hS; go_simp; try with_reducible rfl) ?_)
                try simp only [Act.put, List.getElem_toArray, List.getElem_cons_succ, List.getElem_cons_zero, List.setIfInBounds_toArray, List.set_cons_zero, List.set_cons_succ]
                first | (refine Wk.skip (m := 4) (k := 21) rfl (by rfl) ?_) | (refine Wk.step (m := 4) (k := 21) (v := _) rfl (by rfl) (fun wv hS => by obtain ⟨s0, s1, s2, s3, s4, s5, s6, s7, s8, s9⟩ := hS; go_simp; try with_reducible rfl) ?_)
                try simp only [Act.put, List.getElem_toArray, List.getElem_cons_succ, List.getElem_cons_zero, List.setIfInBounds_toArray, List.set_cons_zero, List.set_cons_succ]
                first | (refine Wk.skip (m := 3) (k := 22) rfl (by rfl) ?_) | (refine Wk.step (m := 3) (k := 22) (v := _) rfl (by rfl) (fun wv hS => by obtain ⟨s0, s1, s2, s3, s4, s5, s6, s7, s8, s9⟩ := hS; go_simp; try with_reducible rfl) ?_)
                try simp only [Act.put, List.getElem_toArray, List.getElem_cons_succ, List.getElem_cons_zero, List.setIfInBounds_toArray, List.set_cons_zero, List.set_cons_succ]
                first | (refine Wk.skip (m := 2) (k := 23) rfl (by rfl) ?_) | (refine Wk.step (m := 2) (k := 23) (v := _) rfl (by rfl) (fun wv hS => by obtain ⟨s0, s1, s2, s3, s4, s5, s6, s7, s8, s9⟩ := hS; go_simp; try with_reducible rfl) ?_)
                try simp only [Act.put, List.getElem_toArray, List.getElem_cons_succ, List.getElem_cons_zero, List.setIfInBounds_toArray, List.set_cons_zero, List.set_cons_succ]
                refine Wk.skip (m := 1) (k := 24) rfl (by rfl) ?_
                try simp only [Act.put, List.getElem_toArray, List.getElem_cons_succ, List.getElem_cons_zero, List.setIfInBounds_toArray, List.set_cons_zero, List.set_cons_succ]
                first | (refine Wk.skip (m := 0) (k := 25) rfl (by rfl) ?_) | (refine Wk.step (m := 0) (k := 25) (v := _) rfl (by rfl) (fun wv hS => by obtain ⟨s0, s1, s2, s3, s4, s5, s6, s7, s8, s9⟩ := hS; go_simp; try with_reducible rfl) ?_)
                try simp only [Act.put, List.getElem_toArray, List.getElem_cons_succ, List.getElem_cons_zero, List.setIfInBounds_toArray, List.set_cons_zero, List.set_cons_succ]
                refine Wk.done fun wE hE => ?_
                clear k0 k1 p3 d0 d1 d2 d3 d4 ci
                obtain ⟨mE, k0, k1, p3, d0, d1, d2, d3, d4, ci⟩ := hE
                go_wp2_with fail
                go_ret
                exact ⟨retB (by rw [HR.out, HE.out]), (hM'.trans mE)⟩
              · have HA := Lib.hid hA
                clear hA
                cases hB2 : isAsB n0 x.nd
                · have HE := Lib.hid (allN_stop (p := vpI n0 zl n1 x0 zs n) (n := n) (show vpI n0 zl n1 x0 zs n k = false by unfold vpI; rw [← hx.out, HA.out, hB2]; rfl) hlt)
                  have HBq := Lib.hid hB2
                  clear hB2 hcong
                  go_wp2_with fail
                  refine wp_region_wk (fun w' => Mk0 wr w' ∧ w'.cell? ⟨w.heap.size, 0, none⟩ = some (.slice a0 n0 c0) ∧ w'.cell? ⟨w.heap.size, 1, none⟩ = some (.slice a1 n1 c1) ∧ w'.cell? ⟨w.heap.size + 1, 3, none⟩ = some (.slice (some ⟨b, off, none⟩) n c) ∧ w'.cell? ⟨b, off + k * 5, none⟩ = some (.int .i64 x.nd) ∧ w'.cell? ⟨b, off + k * 5 + 1, none⟩ = some (.int .i64 x.ing) ∧ w'.cell? ⟨b, off + k * 5 + 2, none⟩ = some (.int .i64 x.eg) ∧ w'.cell? ⟨b, off + k * 5 + 3, none⟩ = some (.int .i64 x.exp) ∧ w'.cell? ⟨b, off + k * 5 + 4, none⟩ = some (.int .i64 x.mac) ∧ w'.cell? ⟨bI, oI + k, none⟩ = some (.int .i64 x.nd)) (by kernel_rfl) (by kernel_rfl) (⟨Mk.drew1 _, k0, k1, p3, d0, d1, d2, d3, d4, ci⟩) ?_
                  change Wk _ _ _ _ 26 0 _
                  first | (refine Wk.skip (m := 25) (k := 0) rfl (by rfl) ?_) | (refine Wk.step (m := 25) (k := 0) (v := _) rfl (by rfl) (fun wv hS => by obtain ⟨s0, s1, s2, s3, s4, s5, s6, s7, s8, s9⟩ := hS; go_simp; try with_reducible rfl) ?_)
                  try simp only [Act.put, List.getElem_toArray, List.getElem_cons_zero, List.setIfInBounds_toArray, List.set_cons_zero, List.set_cons_succ]
                  first | (refine Wk.skip (m := 24) (k := 1) rfl (by rfl) ?_) | (refine Wk.step (m := 24) (k := 1) (v := _) rfl (by rfl) (fun wv hS => by obtain ⟨s0, s1, s2, s3, s4, s5, s6, s7, s8, s9⟩ := hS; go_simp; try with_reducible rfl) ?_)
                  try simp only [Act.put, List.getElem_toArray, List.getElem_cons_succ, List.getElem_cons_zero, List.setIfInBounds_toArray, List.set_cons_zero, List.set_cons_succ]
                  first | (refine Wk.skip (m := 23) (k := 2) rfl (by rfl) ?_) | (refine Wk.step (m := 23) (k := 2) (v := _) rfl (by rfl) (fun wv hS => by obtain ⟨s0, s1, s2, s3, s4, s5, s6, s7, s8, s9⟩ := hS; go_simp; try with_reducible rfl) ?_)
                  try simp only [Act.put, List.getElem_toArray, List.getElem_cons_succ, List.getElem_cons_zero, List.setIfInBounds_toArray, List.set_cons_zero, List.set_cons_succ]
                  first | (refine Wk.skip (m := 22) (k := 3) rfl (by rfl) ?_) | (refine Wk.step (m := 22) (k := 3) (v := _) rfl (by rfl) (fun wv hS => by obtain ⟨s0, s1, s2, s3, s4, s5, s6, s7, s8, s9⟩ := hS; go_simp; try with_reducible rfl) ?_)
                  try simp only [Act.put, List.getElem_toArray, List.getElem_cons_succ, List.getElem_cons_zero, List.setIfInBounds_toArray, List.set_cons_zero, List.set_cons_succ]
                  first | (refine Wk.skip (m := 21) (k := 4) rfl (by rfl) ?_) | (refine Wk.step (m := 21) (k := 4) (v := _) rfl (by rfl) (fun wv hS => by obtain ⟨s0, s1, s2, s3, s4, s5, s6, s7, s8, s9⟩ := hS; go_simp; try with_reducible rfl) ?_)
                  try simp only [Act.put, List.getElem_toArray, List.getElem_cons_succ, List.getElem_cons_zero, List.setIfInBounds_toArray, List.set_cons_zero, List.set_cons_succ]
                  refine Wk.call (m := 20) (k := 5) (v := .bool true) _ _ rfl (by rfl) (fun wv hS => by obtain ⟨s0, s1, s2, s3, s4, s5, s6, s7, s8, s9⟩ := hS; go_simp; first | done | exact ⟨rfl, rfl⟩ | with_reducible rfl) (fun wv hS => ?_) ?_; · obtain ⟨s0, s1, s2, s3, s4, s5, s6, s7, s8, s9⟩ := hS; refine (specVHop x.nd x.ing x.eg x.exp x.mac wv).mono ?_; rintro e w' ⟨he, mm⟩; exact ⟨by rw [he, HA.out], ⟨s0.trans mm, mm.cellAt s1, mm.cellAt s2, mm.cellAt s3, mm.cellAt s4, mm.cellAt s5, mm.cellAt s6, mm.cellAt s7, mm.cellAt s8, mm.cellAt s9⟩⟩
                  try simp only [Act.put, List.getElem_toArray, List.getElem_cons_succ, List.getElem_cons_zero, List.setIfInBounds_toArray, List.set_cons_zero, List.set_cons_succ]
                  first | (refine Wk.skip (m := 19) (k := 6) rfl (by rfl) ?_) | (refine Wk.step (m := 19) (k := 6) (v := _) rfl (by rfl) (fun wv hS => by obtain ⟨s0, s1, s2, s3, s4, s5, s6, s7, s8, s9⟩ := hS; go_simp; try with_reducible rfl) ?_)
                  try simp only [Act.put, List.getElem_toArray, List.getElem_cons_succ, List.getElem_cons_zero, List.setIfInBounds_toArray, List.set_cons_zero, List.set_cons_succ]
                  first | (refine Wk.skip (m := 18) (k := 7) rfl (by rfl) ?_) | (refine Wk.step (m := 18) (k := 7) (v := _) rfl (by rfl) (fun wv hS => by obtain ⟨s0, s1, s2, s3, s4, s5, s6, s7, s8, s9⟩ := hS; go_simp; try with_reducible rfl) ?_)
                  try simp only [Act.put, List.getElem_toArray, List.getElem_cons_succ, List.getElem_cons_zero, List.setIfInBounds_toArray, List.set_cons_zero, List.set_cons_succ]
                  first | (refine Wk.skip (m := 17) (k := 8) rfl (by rfl) ?_) | (refine Wk.step (m := 17) (k := 8) (v := _) rfl (by rfl) (fun wv hS => by obtain ⟨s0, s1, s2, s3, s4, s5, s6, s7, s8, s9⟩ := hS; go_simp; try with_reducible rfl) ?_)
                  try simp only [Act.put, List.getElem_toArray, List.getElem_cons_succ, List.getElem_cons_zero, List.setIfInBounds_toArray, List.set_cons_zero, List.set_cons_succ]
                  first | (refine Wk.skip (m := 16) (k := 9) rfl (by rfl) ?_) | (refine Wk.step (m := 16) (k := 9) (v := _) rfl (by rfl) (fun wv hS => by obtain ⟨s0, s1, s2, s3, s4, s5, s6, s7, s8, s9⟩ := hS; go_simp; try with_reducible rfl) ?_)
                  try simp only [Act.put, List.getElem_toArray, List.getElem_cons_succ, List.getElem_cons_zero, List.setIfInBounds_toArray, List.set_cons_zero, List.set_cons_succ]
                  first | (refine Wk.skip (m := 15) (k := 10) rfl (by rfl) ?_) | (refine Wk.step (m := 15) (k := 10) (v := _) rfl (by rfl) (fun wv hS => by obtain ⟨s0, s1, s2, s3, s4, s5, s6, s7, s8, s9⟩ := hS; go_simp; try with_reducible rfl) ?_)
                  try simp only [Act.put, List.getElem_toArray, List.getElem_cons_succ, List.getElem_cons_zero, List.setIfInBounds_toArray, List.set_cons_zero, List.set_cons_succ]
                  first | (refine Wk.skip (m := 14) (k := 11) rfl (by rfl) ?_) | (refine Wk.step (m := 14) (k := 11) (v := _) rfl (by rfl) (fun wv hS => by obtain ⟨s0, s1, s2, s3, s4, s5, s6, s7, s8, s9⟩ := hS; go_simp; try with_reducible rfl) ?_)
                  try simp only [Act.put, List.getElem_toArray, List.getElem_cons_succ, List.getElem_cons_zero, List.setIfInBounds_toArray, List.set_cons_zero, List.set_cons_succ]
                  first | (refine Wk.skip (m := 13) (k := 12) rfl (by rfl) ?_) | (refine Wk.step (m := 13) (k := 12) (v := _) rfl (by rfl) (fun wv hS => by obtain ⟨s0, s1, s2, s3, s4, s5, s6, s7, s8, s9⟩ := hS; go_simp; try with_reducible rfl) ?_)
                  try simp only [Act.put, List.getElem_toArray, List.getElem_cons_succ, List.getElem_cons_zero, List.setIfInBounds_toArray, List.set_cons_zero, List.set_cons_succ]
                  refine Wk.call (m := 12) (k := 13) (v := .bool false) _ _ rfl (by rfl) (fun wv hS => by obtain ⟨s0, s1, s2, s3, s4, s5, s6, s7, s8, s9⟩ := hS; go_simp; first | done | exact ⟨rfl, rfl⟩ | with_reducible rfl) (fun wv hS => ?_) ?_; · obtain ⟨s0, s1, s2, s3, s4, s5, s6, s7, s8, s9⟩ := hS; refine (specIsAS a0 a1 n0 c0 n1 c1 x.nd wv hn0).mono ?_; rintro e w' ⟨he, mm⟩; exact ⟨by rw [he, HBq.out], ⟨s0.trans mm, mm.cellAt s1, mm.cellAt s2, mm.cellAt s3, mm.cellAt s4, mm.cellAt s5, mm.cellAt s6, mm.cellAt s7, mm.cellAt s8, mm.cellAt s9⟩⟩
                  try simp only [Act.put, List.getElem_toArray, List.getElem_cons_succ, List.getElem_cons_zero, List.setIfInBounds_toArray, List.set_cons_zero, List.set_cons_succ]
                  first | (refine Wk.skip (m := 11) (k := 14) rfl (by rfl) ?_) | (refine Wk.step (m := 11) (k := 14) (v := _) rfl (by rfl) (fun wv hS => by obtain ⟨s0, s1, s2, s3, s4, s5, s6, s7, s8, s9⟩ := hS; go_simp; try with_reducible rfl) ?_)
                  try simp only [Act.put, List.getElem_toArray, List.getElem_cons_succ, List.getElem_cons_zero, List.setIfInBounds_toArray, List.set_cons_zero, List.set_cons_succ]
                  first | (refine Wk.skip (m := 10) (k := 15) rfl (by rfl) ?_) | (refine Wk.step (m := 10) (k := 15) (v := _) rfl (by rfl) (fun wv hS => by obtain ⟨s0, s1, s2, s3, s4, s5, s6, s7, s8, s9⟩ := hS; go_simp; try with_reducible rfl) ?_)
                  try simp only [Act.put, List.getElem_toArray, List.getElem_cons_succ, List.getElem_cons_zero, List.setIfInBounds_toArray, List.set_cons_zero, List.set_cons_succ]
                  first | (refine Wk.skip (m := 9) (k := 16) rfl (by rfl) ?_) | (refine Wk.step (m := 9) (k := 16) (v := _) rfl (by rfl) (fun wv hS => by obtain ⟨s0, s1, s2, s3, s4, s5, s6, s7, s8, s9⟩ := hS; go_simp; try with_reducible rfl) ?_)
                  try simp only [Act.put, List.getElem_toArray, List.getElem_cons_succ, List.getElem_cons_zero, List.setIfInBounds_toArray, List.set_cons_zero, List.set_cons_succ]
                  first | (refine Wk.skip (m := 8) (k := 17) rfl (by rfl) ?_) | (refine Wk.step (m := 8) (k := 17) (v := _) rfl (by rfl) (fun wv hS => by obtain ⟨s0, s1, s2, s3, s4, s5, s6, s7, s8, s9⟩ := hS; go_simp; try with_reducible rfl) ?_)
                  try simp only [Act.put, List.getElem_toArray, List.getElem_cons_succ, List.getElem_cons_zero, List.setIfInBounds_toArray, List.set_cons_zero, List.set_cons_succ]
                  first | (refine Wk.skip (m := 7) (k := 18) rfl (by rfl) ?_) | (refine Wk.step (m := 7) (k := 18) (v := _) rfl (by rfl) (fun wv hS => by obtain ⟨s0, s1, s2, s3, s4, s5, s6, s7, s8, s9⟩ := hS; go_simp; try with_reducible rfl) ?_)
                  try simp only [Act.put, List.getElem_toArray, List.getElem_cons_succ, List.getElem_cons_zero, List.setIfInBounds_toArray, List.set_cons_zero, List.set_cons_succ]
                  first | (refine Wk.skip (m := 6) (k := 19) rfl (by rfl) ?_) | (refine Wk.step (m := 6) (k := 19) (v := _) rfl (by rfl) (fun wv hS => by obtain ⟨s0, s1, s2, s3, s4, s5, s6, s7, s8, s9⟩ := hS; go_simp; try with_reducible rfl) ?_)
                  try simp only [Act.put, List.getElem_toArray, List.getElem_cons_succ, List.getElem_cons_zero, List.setIfInBounds_toArray, List.set_cons_zero, List.set_cons_succ]
                  first | (refine Wk.skip (m := 5) (k := 20) rfl (by rfl) ?_) | (refine Wk.step (m := 5) (k := 20) (v := _) rfl (by rfl) (fun wv hS => by obtain ⟨s0, s1, s2, s3, s4, s5, s6, s7, s8, s9⟩ := hS; go_simp; try with_reducible rfl) ?_)
                  try simp only [Act.put, List.getElem_toArray, List.getElem_cons_succ, List.getElem_cons_zero, List.setIfInBounds_toArray, List.set_cons_zero, List.set_cons_succ]
                  first | (refine Wk.skip (m := 4) (k := 21) rfl (by rfl) ?_) | (refine Wk.step (m := 4) (k := 21) (v := _) rfl (by rfl) (fun wv hS => by obtain ⟨s0, s1, s2, s3, s4, s5, s6, s7, s8, s9⟩ := hS; go_simp; try with_reducible rfl) ?_)
                  try simp only [Act.put, List.getElem_toArray, List.getElem_cons_succ, List.getElem_cons_zero, List.setIfInBounds_toArray, List.set_cons_zero, List.set_cons_succ]
                  first | (refine Wk.skip (m := 3) (k := 22) rfl (by rfl) ?_) | (refine Wk.step (m := 3) (k := 22) (v := _) rfl (by rfl) (fun wv hS => by obtain ⟨s0, s1, s2, s3, s4, s5, s6, s7, s8, s9⟩ := hS; go_simp; try with_reducible rfl) ?_)
                  try simp only [Act.put, List.getElem_toArray, List.getElem_cons_succ, List.getElem_cons_zero, List.setIfInBounds_toArray, List.set_cons_zero, List.set_cons_succ]
                  first | (refine Wk.skip (m := 2) (k := 23) rfl (by rfl) ?_) | (refine Wk.step (m := 2) (k := 23) (v := _) rfl (by rfl) (fun wv hS => by obtain ⟨s0, s1, s2, s3, s4, s5, s6, s7, s8, s9⟩ := hS; go_simp; try with_reducible rfl) ?_)
                  try simp only [Act.put, List.getElem_toArray, List.getElem_cons_succ, List.getElem_cons_zero, List.setIfInBounds_toArray, List.set_cons_zero, List.set_cons_succ]
                  refine Wk.skip (m := 1) (k := 24) rfl (by rfl) ?_
                  try simp only [Act.put, List.getElem_toArray, List.getElem_cons_succ, List.getElem_cons_zero, List.setIfInBounds_toArray, List.set_cons_zero, List.set_cons_succ]
                  first | (refine Wk.skip (m := 0) (k := 25) rfl (by rfl) ?_) | (refine Wk.step (m := 0) (k := 25) (v := _) rfl (by rfl) (fun wv hS => by obtain ⟨s0, s1, s2, s3, s4, s5, s6, s7, s8, s9⟩ := hS; go_simp; try with_reducible rfl) ?_)
                  try simp only [Act.put, List.getElem_toArray, List.getElem_cons_succ, List.getElem_cons_zero, List.setIfInBounds_toArray, List.set_cons_zero, List.set_cons_succ]
                  refine Wk.done fun wE hE => ?_
                  clear k0 k1 p3 d0 d1 d2 d3 d4 ci
                  obtain ⟨mE, k0, k1, p3, d0, d1, d2, d3, d4, ci⟩ := hE
                  go_wp2_with fail
                  go_ret
                  exact ⟨retB (by rw [HR.out, HE.out]), (hM'.trans mE)⟩
                · have HBq := Lib.hid hB2
                  clear hB2
                  cases hC : inUp (ndAt zs) x.nd k
                  · have HCn := Lib.hid hC
                    have HCq := Lib.hid (show inUp (fun j => (colN THop.nd zs k).getD j 0) x.nd k = false by rw [hcong, hC])
                    clear hC hcong
                    go_wp2_with fail
                    refine wp_region_wk (fun w' => Mk0 wr w' ∧ w'.cell? ⟨w.heap.size, 0, none⟩ = some (.slice a0 n0 c0) ∧ w'.cell? ⟨w.heap.size, 1, none⟩ = some (.slice a1 n1 c1) ∧ w'.cell? ⟨w.heap.size + 1, 3, none⟩ = some (.slice (some ⟨b, off, none⟩) n c) ∧ w'.cell? ⟨b, off + k * 5, none⟩ = some (.int .i64 x.nd) ∧ w'.cell? ⟨b, off + k * 5 + 1, none⟩ = some (.int .i64 x.ing) ∧ w'.cell? ⟨b, off + k * 5 + 2, none⟩ = some (.int .i64 x.eg) ∧ w'.cell? ⟨b, off + k * 5 + 3, none⟩ = some (.int .i64 x.exp) ∧ w'.cell? ⟨b, off + k * 5 + 4, none⟩ = some (.int .i64 x.mac) ∧ w'.cell? ⟨bI, oI + k, none⟩ = some (.int .i64 x.nd)) (by kernel_rfl) (by kernel_rfl) (⟨Mk.drew1 _, k0, k1, p3, d0, d1, d2, d3, d4, ci⟩) ?_
                    change Wk _ _ _ _ 26 0 _
                    first | (refine Wk.skip (m := 25) (k := 0) rfl (by rfl) ?_) | (refine Wk.step (m := 25) (k := 0) (v := _) rfl (by rfl) (fun wv hS => by obtain ⟨s0, s1, s2, s3, s4, s5, s6, s7, s8, s9⟩ := hS; go_simp; try with_reducible rfl) ?_)
                    try simp only [Act.put, List.getElem_toArray, List.getElem_cons_zero, List.setIfInBounds_toArray, List.set_cons_zero, List.set_cons_succ]
                    first | (refine Wk.skip (m := 24) (k := 1) rfl (by rfl) ?_) | (refine Wk.step (m := 24) (k := 1) (v := _) rfl (by rfl) (fun wv hS => by obtain ⟨s0, s1, s2, s3, s4, s5, s6, s7, s8, s9⟩ := hS; go_simp; try with_reducible rfl) ?_)
                    try simp only [Act.put, List.getElem_toArray, List.getElem_cons_succ, List.getElem_cons_zero, List.setIfInBounds_toArray, List.set_cons_zero, List.set_cons_succ]
                    first | (refine Wk.skip (m := 23) (k := 2) rfl (by rfl) ?_) | (refine Wk.step (m := 23) (k := 2) (v := _) rfl (by rfl) (fun wv hS => by obtain ⟨s0, s1, s2, s3, s4, s5, s6, s7, s8, s9⟩ := hS; go_simp; try with_reducible rfl) ?_)
                    try simp only [Act.put, List.getElem_toArray, List.getElem_cons_succ, List.getElem_cons_zero, List.setIfInBounds_toArray, List.set_cons_zero, List.set_cons_succ]
                    first | (refine Wk.skip (m := 22) (k := 3) rfl (by rfl) ?_) | (refine Wk.step (m := 22) (k := 3) (v := _) rfl (by rfl) (fun wv hS => by obtain ⟨s0, s1, s2, s3, s4, s5, s6, s7, s8, s9⟩ := hS; go_simp; try with_reducible rfl) ?_)
                    try simp only [Act.put, List.getElem_toArray, List.getElem_cons_succ, List.getElem_cons_zero, List.setIfInBounds_toArray, List.set_cons_zero, List.set_cons_succ]
                    first | (refine Wk.skip (m := 21) (k := 4) rfl (by rfl) ?_) | (refine Wk.step (m := 21) (k := 4) (v := _) rfl (by rfl) (fun wv hS => by obtain ⟨s0, s1, s2, s3, s4, s5, s6, s7, s8, s9⟩ := hS; go_simp; try with_reducible rfl) ?_)
                    try simp only [Act.put, List.getElem_toArray, List.getElem_cons_succ, List.getElem_cons_zero, List.setIfInBounds_toArray, List.set_cons_zero, List.set_cons_succ]
                    refine Wk.call (m := 20) (k := 5) (v := .bool true) _ _ rfl (by rfl) (fun wv hS => by obtain ⟨s0, s1, s2, s3, s4, s5, s6, s7, s8, s9⟩ := hS; go_simp; first | done | exact ⟨rfl, rfl⟩ | with_reducible rfl) (fun wv hS => ?_) ?_; · obtain ⟨s0, s1, s2, s3, s4, s5, s6, s7, s8, s9⟩ := hS; refine (specVHop x.nd x.ing x.eg x.exp x.mac wv).mono ?_; rintro e w' ⟨he, mm⟩; exact ⟨by rw [he, HA.out], ⟨s0.trans mm, mm.cellAt s1, mm.cellAt s2, mm.cellAt s3, mm.cellAt s4, mm.cellAt s5, mm.cellAt s6, mm.cellAt s7, mm.cellAt s8, mm.cellAt s9⟩⟩
                    try simp only [Act.put, List.getElem_toArray, List.getElem_cons_succ, List.getElem_cons_zero, List.setIfInBounds_toArray, List.set_cons_zero, List.set_cons_succ]
                    first | (refine Wk.skip (m := 19) (k := 6) rfl (by rfl) ?_) | (refine Wk.step (m := 19) (k := 6) (v := _) rfl (by rfl) (fun wv hS => by obtain ⟨s0, s1, s2, s3, s4, s5, s6, s7, s8, s9⟩ := hS; go_simp; try with_reducible rfl) ?_)
                    try simp only [Act.put, List.getElem_toArray, List.getElem_cons_succ, List.getElem_cons_zero, List.setIfInBounds_toArray, List.set_cons_zero, List.set_cons_succ]
                    first | (refine Wk.skip (m := 18) (k := 7) rfl (by rfl) ?_) | (refine Wk.step (m := 18) (k := 7) (v := _) rfl (by rfl) (fun wv hS => by obtain ⟨s0, s1, s2, s3, s4, s5, s6, s7, s8, s9⟩ := hS; go_simp; try with_reducible rfl) ?_)
                    try simp only [Act.put, List.getElem_toArray, List.getElem_cons_succ, List.getElem_cons_zero, List.setIfInBounds_toArray, List.set_cons_zero, List.set_cons_succ]
                    first | (refine Wk.skip (m := 17) (k := 8) rfl (by rfl) ?_) | (refine Wk.step (m := 17) (k := 8) (v := _) rfl (by rfl) (fun wv hS => by obtain ⟨s0, s1, s2, s3, s4, s5, s6, s7, s8, s9⟩ := hS; go_simp; try with_reducible rfl) ?_)
                    try simp only [Act.put, List.getElem_toArray, List.getElem_cons_succ, List.getElem_cons_zero, List.setIfInBounds_toArray, List.set_cons_zero, List.set_cons_succ]
                    first | (refine Wk.skip (m := 16) (k := 9) rfl (by rfl) ?_) | (refine Wk.step (m := 16) (k := 9) (v := _) rfl (by rfl) (fun wv hS => by obtain ⟨s0, s1, s2, s3, s4, s5, s6, s7, s8, s9⟩ := hS; go_simp; try with_reducible rfl) ?_)
                    try simp only [Act.put, List.getElem_toArray, List.getElem_cons_succ, List.getElem_cons_zero, List.setIfInBounds_toArray, List.set_cons_zero, List.set_cons_succ]
                    first | (refine Wk.skip (m := 15) (k := 10) rfl (by rfl) ?_) | (refine Wk.step (m := 15) (k := 10) (v := _) rfl (by rfl) (fun wv hS => by obtain ⟨s0, s1, s2, s3, s4, s5, s6, s7, s8, s9⟩ := hS; go_simp; try with_reducible rfl) ?_)
                    try simp only [Act.put, List.getElem_toArray, List.getElem_cons_succ, List.getElem_cons_zero, List.setIfInBounds_toArray, List.set_cons_zero, List.set_cons_succ]
                    first | (refine Wk.skip (m := 14) (k := 11) rfl (by rfl) ?_) | (refine Wk.step (m := 14) (k := 11) (v := _) rfl (by rfl) (fun wv hS => by obtain ⟨s0, s1, s2, s3, s4, s5, s6, s7, s8, s9⟩ := hS; go_simp; try with_reducible rfl) ?_)
                    try simp only [Act.put, List.getElem_toArray, List.getElem_cons_succ, List.getElem_cons_zero, List.setIfInBounds_toArray, List.set_cons_zero, List.set_cons_succ]
                    first | (refine Wk.skip (m := 13) (k := 12) rfl (by rfl) ?_) | (refine Wk.step (m := 13) (k := 12) (v := _) rfl (by rfl) (fun wv hS => by obtain ⟨s0, s1, s2, s3, s4, s5, s6, s7, s8, s9⟩ := hS; go_simp; try with_reducible rfl) ?_)
                    try simp only [Act.put, List.getElem_toArray, List.getElem_cons_succ, List.getElem_cons_zero, List.setIfInBounds_toArray, List.set_cons_zero, List.set_cons_succ]
                    refine Wk.call (m := 12) (k := 13) (v := .bool true) _ _ rfl (by rfl) (fun wv hS => by obtain ⟨s0, s1, s2, s3, s4, s5, s6, s7, s8, s9⟩ := hS; go_simp; first | done | exact ⟨rfl, rfl⟩ | with_reducible rfl) (fun wv hS => ?_) ?_; · obtain ⟨s0, s1, s2, s3, s4, s5, s6, s7, s8, s9⟩ := hS; refine (specIsAS a0 a1 n0 c0 n1 c1 x.nd wv hn0).mono ?_; rintro e w' ⟨he, mm⟩; exact ⟨by rw [he, HBq.out], ⟨s0.trans mm, mm.cellAt s1, mm.cellAt s2, mm.cellAt s3, mm.cellAt s4, mm.cellAt s5, mm.cellAt s6, mm.cellAt s7, mm.cellAt s8, mm.cellAt s9⟩⟩
                    try simp only [Act.put, List.getElem_toArray, List.getElem_cons_succ, List.getElem_cons_zero, List.setIfInBounds_toArray, List.set_cons_zero, List.set_cons_succ]
                    first | (refine Wk.skip (m := 11) (k := 14) rfl (by rfl) ?_) | (refine Wk.step (m := 11) (k := 14) (v := _) rfl (by rfl) (fun wv hS => by obtain ⟨s0, s1, s2, s3, s4, s5, s6, s7, s8, s9⟩ := hS; go_simp; try with_reducible rfl) ?_)
                    try simp only [Act.put, List.getElem_toArray, List.getElem_cons_succ, List.getElem_cons_zero, List.setIfInBounds_toArray, List.set_cons_zero, List.set_cons_succ]
                    first | (refine Wk.skip (m := 10) (k := 15) rfl (by rfl) ?_) | (refine Wk.step (m := 10) (k := 15) (v := _) rfl (by rfl) (fun wv hS => by obtain ⟨s0, s1, s2, s3, s4, s5, s6, s7, s8, s9⟩ := hS; go_simp; try with_reducible rfl) ?_)
                    try simp only [Act.put, List.getElem_toArray, List.getElem_cons_succ, List.getElem_cons_zero, List.setIfInBounds_toArray, List.set_cons_zero, List.set_cons_succ]
                    first | (refine Wk.skip (m := 9) (k := 16) rfl (by rfl) ?_) | (refine Wk.step (m := 9) (k := 16) (v := _) rfl (by rfl) (fun wv hS => by obtain ⟨s0, s1, s2, s3, s4, s5, s6, s7, s8, s9⟩ := hS; go_simp; try with_reducible rfl) ?_)
                    try simp only [Act.put, List.getElem_toArray, List.getElem_cons_succ, List.getElem_cons_zero, List.setIfInBounds_toArray, List.set_cons_zero, List.set_cons_succ]
                    first | (refine Wk.skip (m := 8) (k := 17) rfl (by rfl) ?_) | (refine Wk.step (m := 8) (k := 17) (v := _) rfl (by rfl) (fun wv hS => by obtain ⟨s0, s1, s2, s3, s4, s5, s6, s7, s8, s9⟩ := hS; go_simp; try with_reducible rfl) ?_)
                    try simp only [Act.put, List.getElem_toArray, List.getElem_cons_succ, List.getElem_cons_zero, List.setIfInBounds_toArray, List.set_cons_zero, List.set_cons_succ]
                    first | (refine Wk.skip (m := 7) (k := 18) rfl (by rfl) ?_) | (refine Wk.step (m := 7) (k := 18) (v := _) rfl (by rfl) (fun wv hS => by obtain ⟨s0, s1, s2, s3, s4, s5, s6, s7, s8, s9⟩ := hS; go_simp; try with_reducible rfl) ?_)
                    try simp only [Act.put, List.getElem_toArray, List.getElem_cons_succ, List.getElem_cons_zero, List.setIfInBounds_toArray, List.set_cons_zero, List.set_cons_succ]
                    first | (refine Wk.skip (m := 6) (k := 19) rfl (by rfl) ?_) | (refine Wk.step (m := 6) (k := 19) (v := _) rfl (by rfl) (fun wv hS => by obtain ⟨s0, s1, s2, s3, s4, s5, s6, s7, s8, s9⟩ := hS; go_simp; try with_reducible rfl) ?_)
                    try simp only [Act.put, List.getElem_toArray, List.getElem_cons_succ, List.getElem_cons_zero, List.setIfInBounds_toArray, List.set_cons_zero, List.set_cons_succ]
                    first | (refine Wk.skip (m := 5) (k := 20) rfl (by rfl) ?_) | (refine Wk.step (m := 5) (k := 20) (v := _) rfl (by rfl) (fun wv hS => by obtain ⟨s0, s1, s2, s3, s4, s5, s6, s7, s8, s9⟩ := hS; go_simp; try with_reducible rfl) ?_)
                    try simp only [Act.put, List.getElem_toArray, List.getElem_cons_succ, List.getElem_cons_zero, List.setIfInBounds_toArray, List.set_cons_zero, List.set_cons_succ]
                    first | (refine Wk.skip (m := 4) (k := 21) rfl (by rfl) ?_) | (refine Wk.step (m := 4) (k := 21) (v := _) rfl (by rfl) (fun wv hS => by obtain ⟨s0, s1, s2, s3, s4, s5, s6, s7, s8, s9⟩ := hS; go_simp; try with_reducible rfl) ?_)
                    try simp only [Act.put, List.getElem_toArray, List.getElem_cons_succ, List.getElem_cons_zero, List.setIfInBounds_toArray, List.set_cons_zero, List.set_cons_succ]
                    first | (refine Wk.skip (m := 3) (k := 22) rfl (by rfl) ?_) | (refine Wk.step (m := 3) (k := 22) (v := _) rfl (by rfl) (fun wv hS => by obtain ⟨s0, s1, s2, s3, s4, s5, s6, s7, s8, s9⟩ := hS; go_simp; try with_reducible rfl) ?_)
                    try simp only [Act.put, List.getElem_toArray, List.getElem_cons_succ, List.getElem_cons_zero, List.setIfInBounds_toArray, List.set_cons_zero, List.set_cons_succ]
                    first | (refine Wk.skip (m := 2) (k := 23) rfl (by rfl) ?_) | (refine Wk.step (m := 2) (k := 23) (v := _) rfl (by rfl) (fun wv hS => by obtain ⟨s0, s1, s2, s3, s4, s5, s6, s7, s8, s9⟩ := hS; go_simp; try with_reducible rfl) ?_)
                    try simp only [Act.put, List.getElem_toArray, List.getElem_cons_succ, List.getElem_cons_zero, List.setIfInBounds_toArray, List.set_cons_zero, List.set_cons_succ]
                    refine Wk.call (m := 1) (k := 24) (v := .bool false) _ _ rfl (by rfl) (fun wv hS => by obtain ⟨s0, s1, s2, s3, s4, s5, s6, s7, s8, s9⟩ := hS; go_simp; first | done | exact ⟨rfl, rfl⟩ | with_reducible rfl) (fun wv hS => ?_) ?_; · obtain ⟨s0, s1, s2, s3, s4, s5, s6, s7, s8, s9⟩ := hS; refine (specHas9 x.nd (some ⟨bI, oI, none⟩) k cc w2.heap.size (colN THop.nd zs k) wv (HI.out wv s0) (by omega)).mono ?_; rintro e w' ⟨he, rfl⟩; exact ⟨by rw [he, HCq.out], ⟨s0, s1, s2, s3, s4, s5, s6, s7, s8, s9⟩⟩
                    try simp only [Act.put, List.getElem_toArray, List.getElem_cons_succ, List.getElem_cons_zero, List.setIfInBounds_toArray, List.set_cons_zero, List.set_cons_succ]
                    first | (refine Wk.skip (m := 0) (k := 25) rfl (by rfl) ?_) | (refine Wk.step (m := 0) (k := 25) (v := _) rfl (by rfl) (fun wv hS => by obtain ⟨s0, s1, s2, s3, s4, s5, s6, s7, s8, s9⟩ := hS; go_simp; try with_reducible rfl) ?_)
                    try simp only [Act.put, List.getElem_toArray, List.getElem_cons_succ, List.getElem_cons_zero, List.setIfInBounds_toArray, List.set_cons_zero, List.set_cons_succ]
                    refine Wk.done fun wE hE => ?_
                    clear k0 k1 p3 d0 d1 d2 d3 d4 ci
                    obtain ⟨mE, k0, k1, p3, d0, d1, d2, d3, d4, ci⟩ := hE
                    have ME := hM'.trans mE
                    have NE := hM.trans mE
                    rcases Nat.eq_zero_or_pos k with hk0 | hk0
                    · have hkb : (k == 0) = true := by simp [hk0]
                      have hk1 : decide ((0 : Int) < (k : Int)) = false := decide_eq_false (by omega)
                      have hk1n : decide (0 < k) = false := decide_eq_false (by omega)
                      have HE := Lib.hid (allN_go hS.out (show vpI n0 zl n1 x0 zs n k = true by unfold vpI; rw [← hx.out, HA.out, HBq.out, HCn.out, hkb]; rfl))
                      clear hk0 hkb
                      go_wp2_with fail
                      go_roundw
                      case rel => exact ⟨rfl, k + 1, by omega, by go_num, HE.out, NE⟩
                      case measure => simp [intOf]; omega
                    · have hkb : (k == 0) = false := by simp; omega
                      obtain ⟨q, hq⟩ : ∃ q, Hid (k = q + 1) := ⟨k - 1, by show k = k - 1 + 1; omega⟩
                      obtain ⟨b2, off2, y, eb2, hb3, hy, f0, f1, f2, f3, f4⟩ := HasHop.at _ _ _ _ _ _ (h.mk ME hB' (.inr (Nat.le_refl _))) (show q < n by have := hq.out; omega)
                      clear f0 f1 f2 f3 f4 eb2 d0 d1 d2 d3 d4
                      have cy : wE.cell? ⟨bI, oI + q, none⟩ = some (.int .i64 y.nd) := by have hqn : q < n := (by have := hq.out; omega); have h1 := NE.cellAt (HC.out q hqn); rw [colN_get _ _ _ _ hqn, ← hy.out] at h1; exact h1
                      replace p0 := mE.cellAt p0
                      replace p1 := mE.cellAt p1
                      replace p2 := mE.cellAt p2
                      have i4 : (0 : Int) ≤ (q : Int) := by omega
                      have i5 : (q : Int) < (n : Int) := by have := hq.out; omega
                      have hw3 : IntKind.i64.wrap ((k : Int) - 1) = (q : Int) := by rw [IntKind.wrap_i64]; have := hq.out; omega
                      have hk1 : decide ((0 : Int) < (k : Int)) = true := decide_eq_true (by omega)
                      have hk1n : decide (0 < k) = true := decide_eq_true (by omega)
                      obtain ⟨O, hO⟩ : ∃ O, Hid (O = pOutV x0 zs n (q : Int)) := ⟨_, Lib.hid rfl⟩
                      obtain ⟨I, hIv⟩ : ∃ I, Hid (I = pInV x0 zs n (k : Int)) := ⟨_, Lib.hid rfl⟩
                      obtain ⟨R1, hR1⟩ : ∃ R, Hid (R = (remote zl y.nd O n1).1) := ⟨_, Lib.hid rfl⟩
                      obtain ⟨R2, hR2⟩ : ∃ R, Hid (R = (remote zl y.nd O n1).2) := ⟨_, Lib.hid rfl⟩
                      have HL := Lib.hid (show leadB zl n1 x0 zs n (k - 1) = ((O != 0) && ((R1 == x.nd) && (R2 == I))) by unfold leadB; have e1 : k - 1 = q := (by have := hq.out; omega); rw [e1, ← hq.out, ← hx.out, ← hy.out, ← hO.out, ← hIv.out, ← hR1.out, ← hR2.out])
                      have HV := Lib.hid (show vpI n0 zl n1 x0 zs n k = ((O != 0) && ((R1 == x.nd) && (R2 == I))) by unfold vpI; rw [← hx.out, HA.out, HBq.out, HCn.out, hkb, HL.out]; rfl)
                      clear hkb HL
                      go_wp2_with fail
                      refine wp_region_wk (fun w' => Mk0 wE w' ∧ w'.cell? ⟨w.heap.size, 0, none⟩ = some (.slice a0 n0 c0) ∧ w'.cell? ⟨w.heap.size, 1, none⟩ = some (.slice a1 n1 c1) ∧ w'.cell? ⟨w.heap.size + 1, 0, none⟩ = some (.int .i64 x0) ∧ w'.cell? ⟨w.heap.size + 1, 1, none⟩ = some (.int .i64 x1) ∧ w'.cell? ⟨w.heap.size + 1, 2, none⟩ = some (.int .i64 x2) ∧ w'.cell? ⟨w.heap.size + 1, 3, none⟩ = some (.slice (some ⟨b, off, none⟩) n c) ∧ w'.cell? ⟨bI, oI + k, none⟩ = some (.int .i64 x.nd) ∧ w'.cell? ⟨bI, oI + q, none⟩ = some (.int .i64 y.nd)) (by kernel_rfl) (by kernel_rfl) (⟨Mk.drew1 _, k0, k1, p0, p1, p2, p3, ci, cy⟩) ?_
                      change Wk _ _ _ _ 16 0 _
                      first | (refine Wk.skip (m := 15) (k := 0) rfl (by rfl) ?_) | (refine Wk.step (m := 15) (k := 0) (v := _) rfl (by rfl) (fun wv hS => by obtain ⟨s0, s1, s2, s3, s4, s5, s6, s7, s8⟩ := hS; go_simp; try with_reducible rfl) ?_)
                      try simp only [Act.put, List.getElem_toArray, List.getElem_cons_zero, List.setIfInBounds_toArray, List.set_cons_zero, List.set_cons_succ]
                      first | (refine Wk.skip (m := 14) (k := 1) rfl (by rfl) ?_) | (refine Wk.step (m := 14) (k := 1) (v := _) rfl (by rfl) (fun wv hS => by obtain ⟨s0, s1, s2, s3, s4, s5, s6, s7, s8⟩ := hS; go_simp; try with_reducible rfl) ?_)
                      try simp only [Act.put, List.getElem_toArray, List.getElem_cons_succ, List.getElem_cons_zero, List.setIfInBounds_toArray, List.set_cons_zero, List.set_cons_succ]
                      first | (refine Wk.skip (m := 13) (k := 2) rfl (by rfl) ?_) | (refine Wk.step (m := 13) (k := 2) (v := _) rfl (by rfl) (fun wv hS => by obtain ⟨s0, s1, s2, s3, s4, s5, s6, s7, s8⟩ := hS; go_simp; try with_reducible rfl) ?_)
                      try simp only [Act.put, List.getElem_toArray, List.getElem_cons_succ, List.getElem_cons_zero, List.setIfInBounds_toArray, List.set_cons_zero, List.set_cons_succ]
                      first | (refine Wk.skip (m := 12) (k := 3) rfl (by rfl) ?_) | (refine Wk.step (m := 12) (k := 3) (v := _) rfl (by rfl) (fun wv hS => by obtain ⟨s0, s1, s2, s3, s4, s5, s6, s7, s8⟩ := hS; go_simp; try with_reducible rfl) ?_)
                      try simp only [Act.put, List.getElem_toArray, List.getElem_cons_succ, List.getElem_cons_zero, List.setIfInBounds_toArray, List.set_cons_zero, List.set_cons_succ]
                      first | (refine Wk.skip (m := 11) (k := 4) rfl (by rfl) ?_) | (refine Wk.step (m := 11) (k := 4) (v := _) rfl (by rfl) (fun wv hS => by obtain ⟨s0, s1, s2, s3, s4, s5, s6, s7, s8⟩ := hS; go_simp; try with_reducible rfl) ?_)
                      try simp only [Act.put, List.getElem_toArray, List.getElem_cons_succ, List.getElem_cons_zero, List.setIfInBounds_toArray, List.set_cons_zero, List.set_cons_succ]
                      first | (refine Wk.skip (m := 10) (k := 5) rfl (by rfl) ?_) | (refine Wk.step (m := 10) (k := 5) (v := _) rfl (by rfl) (fun wv hS => by obtain ⟨s0, s1, s2, s3, s4, s5, s6, s7, s8⟩ := hS; go_simp; try with_reducible rfl) ?_)
                      try simp only [Act.put, List.getElem_toArray, List.getElem_cons_succ, List.getElem_cons_zero, List.setIfInBounds_toArray, List.set_cons_zero, List.set_cons_succ]
                      first | (refine Wk.skip (m := 9) (k := 6) rfl (by rfl) ?_) | (refine Wk.step (m := 9) (k := 6) (v := _) rfl (by rfl) (fun wv hS => by obtain ⟨s0, s1, s2, s3, s4, s5, s6, s7, s8⟩ := hS; go_simp; try with_reducible rfl) ?_)
                      try simp only [Act.put, List.getElem_toArray, List.getElem_cons_succ, List.getElem_cons_zero, List.setIfInBounds_toArray, List.set_cons_zero, List.set_cons_succ]
                      first | (refine Wk.skip (m := 8) (k := 7) rfl (by rfl) ?_) | (refine Wk.step (m := 8) (k := 7) (v := _) rfl (by rfl) (fun wv hS => by obtain ⟨s0, s1, s2, s3, s4, s5, s6, s7, s8⟩ := hS; go_simp; try with_reducible rfl) ?_)
                      try simp only [Act.put, List.getElem_toArray, List.getElem_cons_succ, List.getElem_cons_zero, List.setIfInBounds_toArray, List.set_cons_zero, List.set_cons_succ]
                      first | (refine Wk.skip (m := 7) (k := 8) rfl (by rfl) ?_) | (refine Wk.step (m := 7) (k := 8) (v := _) rfl (by rfl) (fun wv hS => by obtain ⟨s0, s1, s2, s3, s4, s5, s6, s7, s8⟩ := hS; go_simp; try with_reducible rfl) ?_)
                      try simp only [Act.put, List.getElem_toArray, List.getElem_cons_succ, List.getElem_cons_zero, List.setIfInBounds_toArray, List.set_cons_zero, List.set_cons_succ]
                      refine Wk.call (m := 6) (k := 9) (v := .int .i64 O) _ _ rfl (by rfl) (fun wv hS => by obtain ⟨s0, s1, s2, s3, s4, s5, s6, s7, s8⟩ := hS; go_simp; first | done | exact ⟨rfl, rfl⟩ | with_reducible rfl) (fun wv hS => ?_) ?_; · obtain ⟨s0, s1, s2, s3, s4, s5, s6, s7, s8⟩ := hS; refine (specPOut x0 x1 x2 _ n c B' zs (q : Int) wv (h.mk (ME.trans s0) hB' (.inr (Nat.le_refl _))) (Nat.le_trans hB' (ME.trans s0).size) hn).mono ?_; rintro e w' ⟨he, mm⟩; exact ⟨by rw [he, ← hO.out], ⟨s0.trans mm, mm.cellAt s1, mm.cellAt s2, mm.cellAt s3, mm.cellAt s4, mm.cellAt s5, mm.cellAt s6, mm.cellAt s7, mm.cellAt s8⟩⟩
                      try simp only [Act.put, List.getElem_toArray, List.getElem_cons_succ, List.getElem_cons_zero, List.setIfInBounds_toArray, List.set_cons_zero, List.set_cons_succ]
                      refine Wk.call (m := 5) (k := 10) (v := .tuple #[.int .i64 R1, .int .i64 R2]) _ _ rfl (by rfl) (fun wv hS => by obtain ⟨s0, s1, s2, s3, s4, s5, s6, s7, s8⟩ := hS; go_simp; first | done | exact ⟨rfl, rfl⟩ | with_reducible rfl) (fun wv hS => ?_) ?_; · obtain ⟨s0, s1, s2, s3, s4, s5, s6, s7, s8⟩ := hS; refine (specRemote a0 a1 n0 c0 n1 c1 B zl y.nd O wv (hl.mk (ME.trans s0) hB (.inr (Nat.le_refl _))) (Nat.le_trans hB (ME.trans s0).size) hn1).mono ?_; rintro e w' ⟨he, mm⟩; exact ⟨by rw [he, ← hR1.out, ← hR2.out], ⟨s0.trans mm, mm.cellAt s1, mm.cellAt s2, mm.cellAt s3, mm.cellAt s4, mm.cellAt s5, mm.cellAt s6, mm.cellAt s7, mm.cellAt s8⟩⟩
                      try simp only [Act.put, List.getElem_toArray, List.getElem_cons_succ, List.getElem_cons_zero, List.setIfInBounds_toArray, List.set_cons_zero, List.set_cons_succ]
                      first | (refine Wk.skip (m := 4) (k := 11) rfl (by rfl) ?_) | (refine Wk.step (m := 4) (k := 11) (v := _) rfl (by rfl) (fun wv hS => by obtain ⟨s0, s1, s2, s3, s4, s5, s6, s7, s8⟩ := hS; go_simp; try with_reducible rfl) ?_)
                      try simp only [Act.put, List.getElem_toArray, List.getElem_cons_succ, List.getElem_cons_zero, List.setIfInBounds_toArray, List.set_cons_zero, List.set_cons_succ]
                      first | (refine Wk.skip (m := 3) (k := 12) rfl (by rfl) ?_) | (refine Wk.step (m := 3) (k := 12) (v := _) rfl (by rfl) (fun wv hS => by obtain ⟨s0, s1, s2, s3, s4, s5, s6, s7, s8⟩ := hS; go_simp; try with_reducible rfl) ?_)
                      try simp only [Act.put, List.getElem_toArray, List.getElem_cons_succ, List.getElem_cons_zero, List.setIfInBounds_toArray, List.set_cons_zero, List.set_cons_succ]
                      first | (refine Wk.skip (m := 2) (k := 13) rfl (by rfl) ?_) | (refine Wk.step (m := 2) (k := 13) (v := _) rfl (by rfl) (fun wv hS => by obtain ⟨s0, s1, s2, s3, s4, s5, s6, s7, s8⟩ := hS; go_simp; try with_reducible rfl) ?_)
                      try simp only [Act.put, List.getElem_toArray, List.getElem_cons_succ, List.getElem_cons_zero, List.setIfInBounds_toArray, List.set_cons_zero, List.set_cons_succ]
                      first | (refine Wk.skip (m := 1) (k := 14) rfl (by rfl) ?_) | (refine Wk.step (m := 1) (k := 14) (v := _) rfl (by rfl) (fun wv hS => by obtain ⟨s0, s1, s2, s3, s4, s5, s6, s7, s8⟩ := hS; go_simp; try with_reducible rfl) ?_)
                      try simp only [Act.put, List.getElem_toArray, List.getElem_cons_succ, List.getElem_cons_zero, List.setIfInBounds_toArray, List.set_cons_zero, List.set_cons_succ]
                      first | (refine Wk.skip (m := 0) (k := 15) rfl (by rfl) ?_) | (refine Wk.step (m := 0) (k := 15) (v := _) rfl (by rfl) (fun wv hS => by obtain ⟨s0, s1, s2, s3, s4, s5, s6, s7, s8⟩ := hS; go_simp; try with_reducible rfl) ?_)
                      try simp only [Act.put, List.getElem_toArray, List.getElem_cons_succ, List.getElem_cons_zero, List.setIfInBounds_toArray, List.set_cons_zero, List.set_cons_succ]
                      refine Wk.done fun wF hF => ?_
                      clear k0 k1 p0 p1 p2 p3 ci cy
                      obtain ⟨mF, k0, k1, p0, p1, p2, p3, ci, cy⟩ := hF
                      have MF := ME.trans mF
                      have NF := NE.trans mF
                      go_wp2_with fail
                      skip
                      refine (specPOut x0 x1 x2 _ n c B' zs (q : Int) _ (h.mk MF hB' (.inr (Nat.le_refl _))) (Nat.le_trans hB' MF.size) hn).mono ?_
                      rintro e w5 ⟨rfl, m5⟩
                      rw [← hO.out]
                      replace k0 := m5.cellAt k0
                      replace k1 := m5.cellAt k1
                      replace p0 := m5.cellAt p0
                      replace p1 := m5.cellAt p1
                      replace p2 := m5.cellAt p2
                      replace p3 := m5.cellAt p3
                      replace ci := m5.cellAt ci
                      replace cy := m5.cellAt cy
                      have M5 := MF.trans m5
                      have N5 := NF.trans m5
                      cases g0 : (O == 0)
                      · have g0' : (O != 0) = true := by simp only [bne, g0]; rfl
                        rw [g0'] at HV
                        clear g0'
                        cases g1 : (R1 == x.nd)
                        · rw [g1] at HV
                          have g1' : (R1 != x.nd) = true := by simp only [bne, g1]; rfl
                          have HE := Lib.hid (allN_stop (p := vpI n0 zl n1 x0 zs n) (n := n) HV.out hlt)
                          clear g1
                          go_wp2_with fail
                          go_ret
                          exact ⟨retB (by rw [HR.out, HE.out]), M5⟩
                        · rw [g1] at HV
                          have g1' : (R1 != x.nd) = false := by simp only [bne, g1]; rfl
                          clear g1
                          go_wp2_with fail
                          refine (specPIn x0 x1 x2 _ n c B' zs (k : Int) _ (h.mk M5 hB' (.inr (Nat.le_refl _))) (Nat.le_trans hB' M5.size) hn).mono ?_
                          rintro e w6 ⟨rfl, m6⟩
                          rw [← hIv.out]
                          have M6 := M5.trans m6
                          have N6 := N5.trans m6
                          replace k0 := m6.cellAt k0
                          replace k1 := m6.cellAt k1
                          replace p0 := m6.cellAt p0
                          replace p1 := m6.cellAt p1
                          replace p2 := m6.cellAt p2
                          replace p3 := m6.cellAt p3
                          replace ci := m6.cellAt ci
                          replace cy := m6.cellAt cy
                          cases g2 : (R2 == I)
                          · rw [g2] at HV
                            have g2' : (R2 != I) = true := by simp only [bne, g2]; rfl
                            have HE := Lib.hid (allN_stop (p := vpI n0 zl n1 x0 zs n) (n := n) HV.out hlt)
                            clear g2
                            go_wp2_with fail
                            go_ret
                            exact ⟨retB (by rw [HR.out, HE.out]), M6⟩
                          · rw [g2] at HV
                            have g2' : (R2 != I) = false := by simp only [bne, g2]; rfl
                            have HE := Lib.hid (allN_go hS.out HV.out)
                            clear g2
                            go_wp2_with fail
                            go_roundw
                            case rel => exact ⟨rfl, k + 1, by omega, by go_num, HE.out, N6⟩
                            case measure => simp [intOf]; omega
                      · have g0' : (O != 0) = false := by simp only [bne, g0]; rfl
                        rw [g0'] at HV
                        clear g0'
                        have HE := Lib.hid (allN_stop (p := vpI n0 zl n1 x0 zs n) (n := n) HV.out hlt)
                        go_wp2_with fail
                        go_ret
                        exact ⟨retB (by rw [HR.out, HE.out]), M5⟩
                  · have HE := Lib.hid (allN_stop (p := vpI n0 zl n1 x0 zs n) (n := n) (show vpI n0 zl n1 x0 zs n k = false by unfold vpI; rw [← hx.out, HA.out, HBq.out, hC]; rfl) hlt)
                    have HCq := Lib.hid (show inUp (fun j => (colN THop.nd zs k).getD j 0) x.nd k = true by rw [hcong, hC])
                    clear hC hcong
                    go_wp2_with fail
                    refine wp_region_wk (fun w' => Mk0 wr w' ∧ w'.cell? ⟨w.heap.size, 0, none⟩ = some (.slice a0 n0 c0) ∧ w'.cell? ⟨w.heap.size, 1, none⟩ = some (.slice a1 n1 c1) ∧ w'.cell? ⟨w.heap.size + 1, 3, none⟩ = some (.slice (some ⟨b, off, none⟩) n c) ∧ w'.cell? ⟨b, off + k * 5, none⟩ = some (.int .i64 x.nd) ∧ w'.cell? ⟨b, off + k * 5 + 1, none⟩ = some (.int .i64 x.ing) ∧ w'.cell? ⟨b, off + k * 5 + 2, none⟩ = some (.int .i64 x.eg) ∧ w'.cell? ⟨b, off + k * 5 + 3, none⟩ = some (.int .i64 x.exp) ∧ w'.cell? ⟨b, off + k * 5 + 4, none⟩ = some (.int .i64 x.mac) ∧ w'.cell? ⟨bI, oI + k, none⟩ = some (.int .i64 x.nd)) (by kernel_rfl) (by kernel_rfl) (⟨Mk.drew1 _, k0, k1, p3, d0, d1, d2, d3, d4, ci⟩) ?_
                    change Wk _ _ _ _ 26 0 _
                    first | (refine Wk.skip (m := 25) (k := 0) rfl (by rfl) ?_) | (refine Wk.step (m := 25) (k := 0) (v := _) rfl (by rfl) (fun wv hS => by obtain ⟨s0, s1, s2, s3, s4, s5, s6, s7, s8, s9⟩ := hS; go_simp; try with_reducible rfl) ?_)
                    try simp only [Act.put, List.getElem_toArray, List.getElem_cons_zero, List.setIfInBounds_toArray, List.set_cons_zero, List.set_cons_succ]
                    first | (refine Wk.skip (m := 24) (k := 1) rfl (by rfl) ?_) | (refine Wk.step (m := 24) (k := 1) (v := _) rfl (by rfl) (fun wv hS => by obtain ⟨s0, s1, s2, s3, s4, s5, s6, s7, s8, s9⟩ := hS; go_simp; try with_reducible rfl) ?_)
                    try simp only [Act.put, List.getElem_toArray, List.getElem_cons_succ, List.getElem_cons_zero, List.setIfInBounds_toArray, List.set_cons_zero, List.set_cons_succ]
                    first | (refine Wk.skip (m := 23) (k := 2) rfl (by rfl) ?_) | (refine Wk.step (m := 23) (k := 2) (v := _) rfl (by rfl) (fun wv hS => by obtain ⟨s0, s1, s2, s3, s4, s5, s6, s7, s8, s9⟩ := hS; go_simp; try with_reducible rfl) ?_)
                    try simp only [Act.put, List.getElem_toArray, List.getElem_cons_succ, List.getElem_cons_zero, List.setIfInBounds_toArray, List.set_cons_zero, List.set_cons_succ]
                    first | (refine Wk.skip (m := 22) (k := 3) rfl (by rfl) ?_) | (refine Wk.step (m := 22) (k := 3) (v := _) rfl (by rfl) (fun wv hS => by obtain ⟨s0, s1, s2, s3, s4, s5, s6, s7, s8, s9⟩ := hS; go_simp; try with_reducible rfl) ?_)
                    try simp only [Act.put, List.getElem_toArray, List.getElem_cons_succ, List.getElem_cons_zero, List.setIfInBounds_toArray, List.set_cons_zero, List.set_cons_succ]
                    first | (refine Wk.skip (m := 21) (k := 4) rfl (by rfl) ?_) | (refine Wk.step (m := 21) (k := 4) (v := _) rfl (by rfl) (fun wv hS => by obtain ⟨s0, s1, s2, s3, s4, s5, s6, s7, s8, s9⟩ := hS; go_simp; try with_reducible rfl) ?_)
                    try simp only [Act.put, List.getElem_toArray, List.getElem_cons_succ, List.getElem_cons_zero, List.setIfInBounds_toArray, List.set_cons_zero, List.set_cons_succ]
                    refine Wk.call (m := 20) (k := 5) (v := .bool true) _ _ rfl (by rfl) (fun wv hS => by obtain ⟨s0, s1, s2, s3, s4, s5, s6, s7, s8, s9⟩ := hS; go_simp; first | done | exact ⟨rfl, rfl⟩ | with_reducible rfl) (fun wv hS => ?_) ?_; · obtain ⟨s0, s1, s2, s3, s4, s5, s6, s7, s8, s9⟩ := hS; refine (specVHop x.nd x.ing x.eg x.exp x.mac wv).mono ?_; rintro e w' ⟨he, mm⟩; exact ⟨by rw [he, HA.out], ⟨s0.trans mm, mm.cellAt s1, mm.cellAt s2, mm.cellAt s3, mm.cellAt s4, mm.cellAt s5, mm.cellAt s6, mm.cellAt s7, mm.cellAt s8, mm.cellAt s9⟩⟩
                    try simp only [Act.put, List.getElem_toArray, List.getElem_cons_succ, List.getElem_cons_zero, List.setIfInBounds_toArray, List.set_cons_zero, List.set_cons_succ]
                    first | (refine Wk.skip (m := 19) (k := 6) rfl (by rfl) ?_) | (refine Wk.step (m := 19) (k := 6) (v := _) rfl (by rfl) (fun wv hS => by obtain ⟨s0, s1, s2, s3, s4, s5, s6, s7, s8, s9⟩ := hS; go_simp; try with_reducible rfl) ?_)
                    try simp only [Act.put, List.getElem_toArray, List.getElem_cons_succ, List.getElem_cons_zero, List.setIfInBounds_toArray, List.set_cons_zero, List.set_cons_succ]
                    first | (refine Wk.skip (m := 18) (k := 7) rfl (by rfl) ?_) | (refine Wk.step (m := 18) (k := 7) (v := _) rfl (by rfl) (fun wv hS => by obtain ⟨s0, s1, s2, s3, s4, s5, s6, s7, s8, s9⟩ := hS; go_simp; try with_reducible rfl) ?_)
                    try simp only [Act.put, List.getElem_toArray, List.getElem_cons_succ, List.getElem_cons_zero, List.setIfInBounds_toArray, List.set_cons_zero, List.set_cons_succ]
                    first | (refine Wk.skip (m := 17) (k := 8) rfl (by rfl) ?_) | (refine Wk.step (m := 17) (k := 8) (v := _) rfl (by rfl) (fun wv hS => by obtain ⟨s0, s1, s2, s3, s4, s5, s6, s7, s8, s9⟩ := hS; go_simp; try with_reducible rfl) ?_)
                    try simp only [Act.put, List.getElem_toArray, List.getElem_cons_succ, List.getElem_cons_zero, List.setIfInBounds_toArray, List.set_cons_zero, List.set_cons_succ]
                    first | (refine Wk.skip (m := 16) (k := 9) rfl (by rfl) ?_) | (refine Wk.step (m := 16) (k := 9) (v := _) rfl (by rfl) (fun wv hS => by obtain ⟨s0, s1, s2, s3, s4, s5, s6, s7, s8, s9⟩ := hS; go_simp; try with_reducible rfl) ?_)
                    try simp only [Act.put, List.getElem_toArray, List.getElem_cons_succ, List.getElem_cons_zero, List.setIfInBounds_toArray, List.set_cons_zero, List.set_cons_succ]
                    first | (refine Wk.skip (m := 15) (k := 10) rfl (by rfl) ?_) | (refine Wk.step (m := 15) (k := 10) (v := _) rfl (by rfl) (fun wv hS => by obtain ⟨s0, s1, s2, s3, s4, s5, s6, s7, s8, s9⟩ := hS; go_simp; try with_reducible rfl) ?_)
                    try simp only [Act.put, List.getElem_toArray, List.getElem_cons_succ, List.getElem_cons_zero, List.setIfInBounds_toArray, List.set_cons_zero, List.set_cons_succ]
                    first | (refine Wk.skip (m := 14) (k := 11) rfl (by rfl) ?_) | (refine Wk.step (m := 14) (k := 11) (v := _) rfl (by rfl) (fun wv hS => by obtain ⟨s0, s1, s2, s3, s4, s5, s6, s7, s8, s9⟩ := hS; go_simp; try with_reducible rfl) ?_)
                    try simp only [Act.put, List.getElem_toArray, List.getElem_cons_succ, List.getElem_cons_zero, List.setIfInBounds_toArray, List.set_cons_zero, List.set_cons_succ]
                    first | (refine Wk.skip (m := 13) (k := 12) rfl (by rfl) ?_) | (refine Wk.step (m := 13) (k := 12) (v := _) rfl (by rfl) (fun wv hS => by obtain ⟨s0, s1, s2, s3, s4, s5, s6, s7, s8, s9⟩ := hS; go_simp; try with_reducible rfl) ?_)
                    try simp only [Act.put, List.getElem_toArray, List.getElem_cons_succ, List.getElem_cons_zero, List.setIfInBounds_toArray, List.set_cons_zero, List.set_cons_succ]
                    refine Wk.call (m := 12) (k := 13) (v := .bool true) _ _ rfl (by rfl) (fun wv hS => by obtain ⟨s0, s1, s2, s3, s4, s5, s6, s7, s8, s9⟩ := hS; go_simp; first | done | exact ⟨rfl, rfl⟩ | with_reducible rfl) (fun wv hS => ?_) ?_; · obtain ⟨s0, s1, s2, s3, s4, s5, s6, s7, s8, s9⟩ := hS; refine (specIsAS a0 a1 n0 c0 n1 c1 x.nd wv hn0).mono ?_; rintro e w' ⟨he, mm⟩; exact ⟨by rw [he, HBq.out], ⟨s0.trans mm, mm.cellAt s1, mm.cellAt s2, mm.cellAt s3, mm.cellAt s4, mm.cellAt s5, mm.cellAt s6, mm.cellAt s7, mm.cellAt s8, mm.cellAt s9⟩⟩
                    try simp only [Act.put, List.getElem_toArray, List.getElem_cons_succ, List.getElem_cons_zero, List.setIfInBounds_toArray, List.set_cons_zero, List.set_cons_succ]
                    first | (refine Wk.skip (m := 11) (k := 14) rfl (by rfl) ?_) | (refine Wk.step (m := 11) (k := 14) (v := _) rfl (by rfl) (fun wv hS => by obtain ⟨s0, s1, s2, s3, s4, s5, s6, s7, s8, s9⟩ := hS; go_simp; try with_reducible rfl) ?_)
                    try simp only [Act.put, List.getElem_toArray, List.getElem_cons_succ, List.getElem_cons_zero, List.setIfInBounds_toArray, List.set_cons_zero, List.set_cons_succ]
                    first | (refine Wk.skip (m := 10) (k := 15) rfl (by rfl) ?_) | (refine Wk.step (m := 10) (k := 15) (v := _) rfl (by rfl) (fun wv hS => by obtain ⟨s0, s1, s2, s3, s4, s5, s6, s7, s8, s9⟩ := hS; go_simp; try with_reducible rfl) ?_)
                    try simp only [Act.put, List.getElem_toArray, List.getElem_cons_succ, List.getElem_cons_zero, List.setIfInBounds_toArray, List.set_cons_zero, List.set_cons_succ]
                    first | (refine Wk.skip (m := 9) (k := 16) rfl (by rfl) ?_) | (refine Wk.step (m := 9) (k := 16) (v := _) rfl (by rfl) (fun wv hS => by obtain ⟨s0, s1, s2, s3, s4, s5, s6, s7, s8, s9⟩ := hS; go_simp; try with_reducible rfl) ?_)
                    try simp only [Act.put, List.getElem_toArray, List.getElem_cons_succ, List.getElem_cons_zero, List.setIfInBounds_toArray, List.set_cons_zero, List.set_cons_succ]
                    first | (refine Wk.skip (m := 8) (k := 17) rfl (by rfl) ?_) | (refine Wk.step (m := 8) (k := 17) (v := _) rfl (by rfl) (fun wv hS => by obtain ⟨s0, s1, s2, s3, s4, s5, s6, s7, s8, s9⟩ := hS; go_simp; try with_reducible rfl) ?_)
                    try simp only [Act.put, List.getElem_toArray, List.getElem_cons_succ, List.getElem_cons_zero, List.setIfInBounds_toArray, List.set_cons_zero, List.set_cons_succ]
                    first | (refine Wk.skip (m := 7) (k := 18) rfl (by rfl) ?_) | (refine Wk.step (m := 7) (k := 18) (v := _) rfl (by rfl) (fun wv hS => by obtain ⟨s0, s1, s2, s3, s4, s5, s6, s7, s8, s9⟩ := hS; go_simp; try with_reducible rfl) ?_)
                    try simp only [Act.put, List.getElem_toArray, List.getElem_cons_succ, List.getElem_cons_zero, List.setIfInBounds_toArray, List.set_cons_zero, List.set_cons_succ]
                    first | (refine Wk.skip (m := 6) (k := 19) rfl (by rfl) ?_) | (refine Wk.step (m := 6) (k := 19) (v := _) rfl (by rfl) (fun wv hS => by obtain ⟨s0, s1, s2, s3, s4, s5, s6, s7, s8, s9⟩ := hS; go_simp; try with_reducible rfl) ?_)
                    try simp only [Act.put, List.getElem_toArray, List.getElem_cons_succ, List.getElem_cons_zero, List.setIfInBounds_toArray, List.set_cons_zero, List.set_cons_succ]
                    first | (refine Wk.skip (m := 5) (k := 20) rfl (by rfl) ?_) | (refine Wk.step (m := 5) (k := 20) (v := _) rfl (by rfl) (fun wv hS => by obtain ⟨s0, s1, s2, s3, s4, s5, s6, s7, s8, s9⟩ := hS; go_simp; try with_reducible rfl) ?_)
                    try simp only [Act.put, List.getElem_toArray, List.getElem_cons_succ, List.getElem_cons_zero, List.setIfInBounds_toArray, List.set_cons_zero, List.set_cons_succ]
                    first | (refine Wk.skip (m := 4) (k := 21) rfl (by rfl) ?_) | (refine Wk.step (m := 4) (k := 21) (v := _) rfl (by rfl) (fun wv hS => by obtain ⟨s0, s1, s2, s3, s4, s5, s6, s7, s8, s9⟩ := hS; go_simp; try with_reducible rfl) ?_)
                    try simp only [Act.put, List.getElem_toArray, List.getElem_cons_succ, List.getElem_cons_zero, List.setIfInBounds_toArray, List.set_cons_zero, List.set_cons_succ]
                    first | (refine Wk.skip (m := 3) (k := 22) rfl (by rfl) ?_) | (refine Wk.step (m := 3) (k := 22) (v := _) rfl (by rfl) (fun wv hS => by obtain ⟨s0, s1, s2, s3, s4, s5, s6, s7, s8, s9⟩ := hS; go_simp; try with_reducible rfl) ?_)
                    try simp only [Act.put, List.getElem_toArray, List.getElem_cons_succ, List.getElem_cons_zero, List.setIfInBounds_toArray, List.set_cons_zero, List.set_cons_succ]
                    first | (refine Wk.skip (m := 2) (k := 23) rfl (by rfl) ?_) | (refine Wk.step (m := 2) (k := 23) (v := _) rfl (by rfl) (fun wv hS => by obtain ⟨s0, s1, s2, s3, s4, s5, s6, s7, s8, s9⟩ := hS; go_simp; try with_reducible rfl) ?_)
                    try simp only [Act.put, List.getElem_toArray, List.getElem_cons_succ, List.getElem_cons_zero, List.setIfInBounds_toArray, List.set_cons_zero, List.set_cons_succ]
                    refine Wk.call (m := 1) (k := 24) (v := .bool true) _ _ rfl (by rfl) (fun wv hS => by obtain ⟨s0, s1, s2, s3, s4, s5, s6, s7, s8, s9⟩ := hS; go_simp; first | done | exact ⟨rfl, rfl⟩ | with_reducible rfl) (fun wv hS => ?_) ?_; · obtain ⟨s0, s1, s2, s3, s4, s5, s6, s7, s8, s9⟩ := hS; refine (specHas9 x.nd (some ⟨bI, oI, none⟩) k cc w2.heap.size (colN THop.nd zs k) wv (HI.out wv s0) (by omega)).mono ?_; rintro e w' ⟨he, rfl⟩; exact ⟨by rw [he, HCq.out], ⟨s0, s1, s2, s3, s4, s5, s6, s7, s8, s9⟩⟩
                    try simp only [Act.put, List.getElem_toArray, List.getElem_cons_succ, List.getElem_cons_zero, List.setIfInBounds_toArray, List.set_cons_zero, List.set_cons_succ]
                    first | (refine Wk.skip (m := 0) (k := 25) rfl (by rfl) ?_) | (refine Wk.step (m := 0) (k := 25) (v := _) rfl (by rfl) (fun wv hS => by obtain ⟨s0, s1, s2, s3, s4, s5, s6, s7, s8, s9⟩ := hS; go_simp; try with_reducible rfl) ?_)
                    try simp only [Act.put, List.getElem_toArray, List.getElem_cons_succ, List.getElem_cons_zero, List.setIfInBounds_toArray, List.set_cons_zero, List.set_cons_succ]
                    refine Wk.done fun wE hE => ?_
                    clear k0 k1 p3 d0 d1 d2 d3 d4 ci
                    obtain ⟨mE, k0, k1, p3, d0, d1, d2, d3, d4, ci⟩ := hE
                    go_wp2_with fail
                    go_ret
                    exact ⟨retB (by rw [HR.out, HE.out]), (hM'.trans mE)⟩
            · obtain rfl : k = n := by omega
              go_wp2_with fail
              go_ret
              exact ⟨retB (by rw [HR.out, hS.out]), hM'⟩

end Go.Proofs.YtifhhfndoifbhaaGreat
