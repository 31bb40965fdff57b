
/- The interfaces that a path uses, of both sides. -/
import Derived.Test.YtifhhfndoifbhaaGreatStepI
import Derived.Test.YtifhhfndoifbhaaGreatDig
import Derived.Test.YtifhhfndoifbhaaGreatRow
import Derived.Test.YtifhhfndoifbhaaGreatWs
namespace Go.Proofs.YtifhhfndoifbhaaGreat
open Go.ChangeShapes Go.WideShapes Go.ChangeAt Go.RowKit
set_option linter.unusedVariables false
def ifN (r q : Int) : Int := wrap64 (wrap64 (8 * r) + q)
def endA (y : TStep) : List Int := if y.ing = 0 then [] else [ifN y.nd y.ing]
def endB (y : TStep) : List Int := if y.eg = 0 then [] else [ifN y.nd y.eg]
def endsN (y : TStep) : Nat → List Int
  | 0 => []
  | 1 => endA y
  | _ => endA y ++ endB y
def usedUp (l : List TStep) : Nat → List Int
  | 0 => []
  | k + 1 => usedUp l k ++ (endA (l.getD k default) ++ endB (l.getD k default))
theorem endA_len (y : TStep) : (endA y).length ≤ 1 := by unfold endA; split <;> simp
theorem endB_len (y : TStep) : (endB y).length ≤ 1 := by unfold endB; split <;> simp
theorem usedUp_len (l : List TStep) : ∀ k, (usedUp l k).length ≤ 2 * k
  | 0 => by simp [usedUp]
  | k + 1 => by
    have h0 := usedUp_len l k
    have h1 := endA_len (l.getD k default)
    have h2 := endB_len (l.getD k default)
    rw [usedUp, List.length_append, List.length_append]
    omega
def usedAll (ps : List TPathPart) (n : Nat) : List Int := usedUp (pathSt ps n) (pathSt ps n).length
/-- A call that hands back a new row of numbers that it owns whole. -/
def OutOwnI (e : TypeId) (w : World) (R : List Int) (en : Ending) (w' : World) : Prop :=
  ∃ v, en = .returned v ∧ w'.ownsRow w.heap.size e 1 v R.length (R.map (.int .i64)) ∧ Mk0 w w'
theorem OutOwnI.of {w w' : World} {R : List Int} {v : Value} {n : Nat} {e : TypeId} (h : w'.ownsRow w.heap.size e 1 v n (R.map (.int .i64))) (hb : Mk0 w w') : OutOwnI e w R (.returned v) w' := by
  have hl : n = R.length := by have := h.1; simp at this; omega
  subst hl
  exact ⟨v, rfl, h, hb⟩
theorem OutOwnI.r {e : TypeId} {w w' : World} {R : List Int} {en : Ending} (h : OutOwnI e w R en w') : OutR .i64 w R en w' := by
  obtain ⟨v, rfl, ho, hb⟩ := h
  exact OutR.of ho hb.below0
theorem own_empI (w : World) (e : TypeId) : (w.alloc (.cells #[] e)).ownsRow w.heap.size e 1 (.slice (some ⟨w.heap.size, 0, none⟩) 0 0) 0 (([] : List Int).map (.int .i64)) := own_lit w e [] (by simp)
set_option maxRecDepth 100000 in
set_option maxHeartbeats 4000000 in
theorem implIfN (r q : Int) (w : World) : Calls Tryz.prog 97 #[.int .i64 r, .int .i64 q] w fun e w' => e = .returned (.int .i64 (ifN r q)) ∧ w = w' := by
  go_enter Tryz.func97, Tryz.ntmps97
  go_wp2
  go_ret
  exact ⟨rfl, rfl⟩

set_option maxRecDepth 100000 in
set_option maxHeartbeats 4000000 in
theorem implEnds2 (y : TStep) (w : World) : Calls Tryz.prog 65 #[.agg #[.int .i64 y.nd, .int .i64 y.ing, .int .i64 y.eg]] w (OutOwnI 3 w (endA y ++ endB y)) := by
  obtain ⟨i0, hi, hz0, hz1, hz2⟩ := info_parts infoI64
  have hby : i0.bytes ≤ 8 := by rw [hz2]; decide
  have M0 := Mk.alloc w (Obj.cells #[Value.int .i64 y.nd, Value.int .i64 y.ing, Value.int .i64 y.eg] 100)
  have k0 : (w.alloc (Obj.cells #[Value.int .i64 y.nd, Value.int .i64 y.ing, Value.int .i64 y.eg] 100)).cell? ⟨w.heap.size, 0, none⟩ = some (.int .i64 y.nd) := by simp [go_sem]
  have k1 : (w.alloc (Obj.cells #[Value.int .i64 y.nd, Value.int .i64 y.ing, Value.int .i64 y.eg] 100)).cell? ⟨w.heap.size, 1, none⟩ = some (.int .i64 y.ing) := by simp [go_sem]
  have k2 : (w.alloc (Obj.cells #[Value.int .i64 y.nd, Value.int .i64 y.ing, Value.int .i64 y.eg] 100)).cell? ⟨w.heap.size, 2, none⟩ = some (.int .i64 y.eg) := by simp [go_sem]
  go_enter Tryz.func65, Tryz.ntmps65
  go_wp2_with fail
  have hl0 := own_empI (w.alloc (Obj.cells #[Value.int .i64 y.nd, Value.int .i64 y.ing, Value.int .i64 y.eg] 100)) 3
  have ML := Mk.alloc (w.alloc (Obj.cells #[Value.int .i64 y.nd, Value.int .i64 y.ing, Value.int .i64 y.eg] 100)) (.cells #[] 3)
  have hszl := M0.size
  go_loopw [3, 9] (fun v i wr => ∃ k : Nat, k ≤ 2 ∧ i = .int .i64 k ∧ wr.ownsRow (w.alloc (Obj.cells #[Value.int .i64 y.nd, Value.int .i64 y.ing, Value.int .i64 y.eg] 100)).heap.size 3 1 v (endsN y k).length ((endsN y k).map (.int .i64)) ∧ Mk0 (w.alloc (Obj.cells #[Value.int .i64 y.nd, Value.int .i64 y.ing, Value.int .i64 y.eg] 100)) wr) (fun _ i _ => 2 - (intOf i).toNat)
  case atStart => exact ⟨0, by omega, rfl, (by rw [World.size_alloc w] at hl0 ⊢; exact hl0), ML⟩
  case round =>
    clear hl0 ML
    obtain ⟨k, hk, rfl, hown, hM⟩ := hrel
    replace k0 := hM.cellAt k0
    replace k1 := hM.cellAt k1
    replace k2 := hM.cellAt k2
    have hlow := hM.size
    rcases (by omega : k = 0 ∨ k = 1 ∨ k = 2) with rfl | rfl | rfl
    · cases e : (y.ing == 0)
      · have HE := Lib.hid (show endsN y 1 = endsN y 0 ++ [ifN y.nd y.ing] from by exact (show endA y = [] ++ [ifN y.nd y.ing] by unfold endA; rw [if_neg (by simpa using e)]; rfl))
        have e' : (y.ing != 0) = true := by simp only [bne, e]; rfl
        clear e
        have hL : (endsN y 0).length ≤ 1 := by first | exact endA_len y | simp [endsN]
        obtain ⟨L, hLq⟩ : ∃ L, Hid (L = endsN y 0) := ⟨_, rfl⟩
        rw [← hLq.out] at hown hL HE
        have hn1 := has_new .i64 wr 3 (ifN y.nd y.ing)
        have MA := Mk.alloc wr (.cells #[.int .i64 (ifN y.nd y.ing)] 3)
        have ho' := own_keptR hown MA
        have hlo' := Nat.le_trans hlow MA.size
        go_wp2_with (first | (go_at_call 97; refine (implIfN _ _ _).mono ?_; rintro e w' ⟨rfl, rfl⟩) | (at_builtin; refine wpList_app rfl (.tmp 15) (.tmp 20) 66 rfl _ 3 i0 Tryz.underlying66 hi hz0 hz1 hby _ L L.length rfl ho' _ 1 1 [ifN y.nd y.ing] rfl (fun h => by cases h) hn1 (by omega) hlo' ?_; intro v2 w2 ho2 hg2 _))
        have M2 := (hM.trans MA).appR hg2 (fun g hg => (ho'.lt g hg).1)
        go_wp2_with fail
        go_roundw
        case rel => exact ⟨1, by omega, by first | rfl | go_num, by rw [HE.out, List.length_append]; exact ho2, M2⟩
        case measure => simp [intOf]
      · have HE := Lib.hid (show endsN y 1 = endsN y 0 from by exact (show endA y = [] by unfold endA; rw [if_pos (by simpa using e)]))
        have e' : (y.ing != 0) = false := by simp only [bne, e]; rfl
        clear e
        go_wp2_with fail
        go_roundw
        case rel => exact ⟨1, by omega, by first | rfl | go_num, by rw [HE.out]; exact hown, hM⟩
        case measure => simp [intOf]
    · cases e : (y.eg == 0)
      · have HE := Lib.hid (show endsN y 2 = endsN y 1 ++ [ifN y.nd y.eg] from by exact (show endA y ++ endB y = endA y ++ [ifN y.nd y.eg] by rw [show endB y = [ifN y.nd y.eg] from if_neg (by simpa using e)]))
        have e' : (y.eg != 0) = true := by simp only [bne, e]; rfl
        clear e
        have hL : (endsN y 1).length ≤ 1 := by first | exact endA_len y | simp [endsN]
        obtain ⟨L, hLq⟩ : ∃ L, Hid (L = endsN y 1) := ⟨_, rfl⟩
        rw [← hLq.out] at hown hL HE
        have hn1 := has_new .i64 wr 3 (ifN y.nd y.eg)
        have MA := Mk.alloc wr (.cells #[.int .i64 (ifN y.nd y.eg)] 3)
        have ho' := own_keptR hown MA
        have hlo' := Nat.le_trans hlow MA.size
        go_wp2_with (first | (go_at_call 97; refine (implIfN _ _ _).mono ?_; rintro e w' ⟨rfl, rfl⟩) | (at_builtin; refine wpList_app rfl (.tmp 15) (.tmp 20) 66 rfl _ 3 i0 Tryz.underlying66 hi hz0 hz1 hby _ L L.length rfl ho' _ 1 1 [ifN y.nd y.eg] rfl (fun h => by cases h) hn1 (by omega) hlo' ?_; intro v2 w2 ho2 hg2 _))
        have M2 := (hM.trans MA).appR hg2 (fun g hg => (ho'.lt g hg).1)
        go_wp2_with fail
        go_roundw
        case rel => exact ⟨2, by omega, by first | rfl | go_num, by rw [HE.out, List.length_append]; exact ho2, M2⟩
        case measure => simp [intOf]
      · have HE := Lib.hid (show endsN y 2 = endsN y 1 from by exact (show endA y ++ endB y = endA y by rw [show endB y = [] from if_pos (by simpa using e), List.append_nil]))
        have e' : (y.eg != 0) = false := by simp only [bne, e]; rfl
        clear e
        go_wp2_with fail
        go_roundw
        case rel => exact ⟨2, by omega, by first | rfl | go_num, by rw [HE.out]; exact hown, hM⟩
        case measure => simp [intOf]
    · go_wp2_with fail
      go_ret
      exact OutOwnI.of (R := endA y ++ endB y) (own_low hown hszl) (M0.trans hM)

set_option maxRecDepth 100000 in
set_option maxHeartbeats 4000000 in
theorem specUsed (a : Option Addr) (n c B : Nat) (ps : List TPathPart) (w : World) (h : HasPathPart w B a n ps) (hB : B ≤ w.heap.size) (hn : szPathPart ps n ≤ 1048576) :
    Calls Tryz.prog 34 #[.agg #[.slice a n c]] w (OutOwnI 3 w (usedAll ps n)) := by
  obtain ⟨i0, hi, hz0, hz1, hz2⟩ := info_parts infoI64
  have hby : i0.bytes ≤ 8 := by rw [hz2]; decide
  have M0 := Mk.alloc w (Obj.cells #[Value.slice a n c] 39)
  have hsz := Lib.hid (World.size_alloc w (Obj.cells #[Value.slice a n c] 39))
  have k0 : (w.alloc (Obj.cells #[Value.slice a n c] 39)).cell? ⟨w.heap.size, 0, none⟩ = some (.slice a n c) := by simp [go_sem]
  generalize hW1 : w.alloc (Obj.cells #[Value.slice a n c] 39) = W1 at *
  have k0' := (Mk.alloc W1 (.cells #[] 3)).cellAt k0
  go_enter Tryz.func34, Tryz.ntmps34
  go_wp2_with fail
  clear hW1 k0 k0'
  have hl0 := own_empI W1 3
  have ML := Mk.alloc W1 (.cells #[] 3)
  have M1 := M0.trans ML
  refine (specPathSteps a n c B ps _ (h.mk M1 hB (.inr (Nat.le_refl _))) (Nat.le_trans hB M1.size) hn).mono ?_
  rintro e w2 ⟨A, N, cc, rfl, hcc, oo, m2⟩
  have hNle : N ≤ 1048576 := by have := pathSt_le ps n; have := oo.1; omega
  have HR := Lib.hid (show usedAll ps n = usedUp (pathSt ps n) N by unfold usedAll; rw [oo.1])
  have hl2 := own_keptR hl0 m2
  have M2 := ML.trans m2
  obtain ⟨lo, hlo⟩ : ∃ lo, Hid (lo = (W1.alloc (.cells #[] 3)).heap.size) := ⟨_, rfl⟩
  rw [← hlo.out] at oo
  have hlo1 : lo = W1.heap.size + 1 := by rw [hlo.out, World.size_alloc]
  have hb0 : ∀ g, (Value.slice (some ⟨W1.heap.size, 0, none⟩) 0 0).ownBlock = some g → g < lo ∨ w2.heap.size ≤ g := fun g hg => .inl (by
    have : W1.heap.size = g := by simpa [Value.ownBlock] using hg
    omega)
  have HLO := Lib.hid hlo1
  clear hl0 ML M1 m2 hlo1 hlo
  go_wp2_with fail
  go_loopw [3, 5] (fun v i wr => ∃ k : Nat, k ≤ N ∧ i = .int .i64 k ∧ wr.ownsRow W1.heap.size 3 1 v (usedUp (pathSt ps n) k).length ((usedUp (pathSt ps n) k).map (.int .i64)) ∧ (∀ g, v.ownBlock = some g → g < lo ∨ w2.heap.size ≤ g) ∧ OwnStep wr lo w2.heap.size A N (pathSt ps n) ∧ Mk0 W1 wr ∧ w2.heap.size ≤ wr.heap.size) (fun _ i _ => N - (intOf i).toNat)
  case atStart => exact ⟨0, Nat.zero_le _, rfl, hl2, hb0, oo, M2, Nat.le_refl _⟩
  case round =>
    clear hl2 hb0 oo M2
    obtain ⟨k, hk, rfl, hown, hvb, oo, hM, hs2⟩ := hrel
    have HVB := Lib.hid hvb
    clear hvb
    have hul := usedUp_len (pathSt ps n) k
    by_cases hlt : k < N
    · obtain ⟨b, off, y, rfl, hb, hx, c0, c1, c2⟩ := HasStep.at _ _ _ _ _ _ oo.has hlt
      have hbr := World.block_lt_of_cell? _ _ c0
      simp only at hbr
      have i1 : (0 : Int) ≤ (k : Int) := by omega
      have i2 : (k : Int) < (N : Int) := by omega
      have hlow := hM.size
      have HE := Lib.hid (show usedUp (pathSt ps n) (k + 1) = usedUp (pathSt ps n) k ++ (endA y ++ endB y) by rw [usedUp, ← hx.out])
      obtain ⟨L, hLq⟩ : ∃ L, Hid (L = usedUp (pathSt ps n) k) := ⟨_, rfl⟩
      rw [← hLq.out] at hown hul HE
      cases e1 : (y.ing == 0)
      · have e1' : (y.ing != 0) = true := by simp only [bne, e1]; rfl
        have HA := Lib.hid (show endA y = [ifN y.nd y.ing] from if_neg (by simpa using e1))
        clear e1
        go_wp2_with fail
        refine wp_region_wkt (fun w' => Mk0 wr w' ∧ w'.cell? ⟨b, off + k * 3, none⟩ = some (.int .i64 y.nd) ∧ w'.cell? ⟨b, off + k * 3 + 1, none⟩ = some (.int .i64 y.ing) ∧ w'.cell? ⟨b, off + k * 3 + 2, none⟩ = some (.int .i64 y.eg)) 13 (by kernel_rfl) (by kernel_rfl) (by kernel_rfl) (by decide) (⟨Mk.drew1 _, c0, c1, c2⟩) ?_
        change WkT _ _ _ _ _ 13 0 _
        first | (refine WkT.skip (m := 12) (k := 0) rfl (by rfl) ?_) | (refine WkT.pure (m := 12) (k := 0) (v := _) rfl (by rfl) (fun wv => by go_simp; try with_reducible rfl) ?_) | (refine WkT.step (m := 12) (k := 0) (v := _) rfl (by rfl) (by kernel_rfl) (fun wv hS => by obtain ⟨s0, s1, s2, s3⟩ := hS; go_simp; try with_reducible rfl) ?_)
        try simp only [Act.put, List.getElem_toArray, List.getElem_cons_zero, List.setIfInBounds_toArray, List.set_cons_zero, List.set_cons_succ]
        first | (refine WkT.skip (m := 11) (k := 1) rfl (by rfl) ?_) | (refine WkT.pure (m := 11) (k := 1) (v := _) rfl (by rfl) (fun wv => by go_simp; try with_reducible rfl) ?_) | (refine WkT.step (m := 11) (k := 1) (v := _) rfl (by rfl) (by kernel_rfl) (fun wv hS => by obtain ⟨s0, s1, s2, s3⟩ := hS; go_simp; try with_reducible rfl) ?_)
        try simp only [Act.put, List.getElem_toArray, List.getElem_cons_succ, List.getElem_cons_zero, List.setIfInBounds_toArray, List.set_cons_zero, List.set_cons_succ]
        first | (refine WkT.skip (m := 10) (k := 2) rfl (by rfl) ?_) | (refine WkT.pure (m := 10) (k := 2) (v := _) rfl (by rfl) (fun wv => by go_simp; try with_reducible rfl) ?_) | (refine WkT.step (m := 10) (k := 2) (v := _) rfl (by rfl) (by kernel_rfl) (fun wv hS => by obtain ⟨s0, s1, s2, s3⟩ := hS; go_simp; try with_reducible rfl) ?_)
        try simp only [Act.put, List.getElem_toArray, List.getElem_cons_succ, List.getElem_cons_zero, List.setIfInBounds_toArray, List.set_cons_zero, List.set_cons_succ]
        first | (refine WkT.skip (m := 9) (k := 3) rfl (by rfl) ?_) | (refine WkT.pure (m := 9) (k := 3) (v := _) rfl (by rfl) (fun wv => by go_simp; try with_reducible rfl) ?_) | (refine WkT.step (m := 9) (k := 3) (v := _) rfl (by rfl) (by kernel_rfl) (fun wv hS => by obtain ⟨s0, s1, s2, s3⟩ := hS; go_simp; try with_reducible rfl) ?_)
        try simp only [Act.put, List.getElem_toArray, List.getElem_cons_succ, List.getElem_cons_zero, List.setIfInBounds_toArray, List.set_cons_zero, List.set_cons_succ]
        first | (refine WkT.skip (m := 8) (k := 4) rfl (by rfl) ?_) | (refine WkT.pure (m := 8) (k := 4) (v := _) rfl (by rfl) (fun wv => by go_simp; try with_reducible rfl) ?_) | (refine WkT.step (m := 8) (k := 4) (v := _) rfl (by rfl) (by kernel_rfl) (fun wv hS => by obtain ⟨s0, s1, s2, s3⟩ := hS; go_simp; try with_reducible rfl) ?_)
        try simp only [Act.put, List.getElem_toArray, List.getElem_cons_succ, List.getElem_cons_zero, List.setIfInBounds_toArray, List.set_cons_zero, List.set_cons_succ]
        first | (refine WkT.skip (m := 7) (k := 5) rfl (by rfl) ?_) | (refine WkT.pure (m := 7) (k := 5) (v := _) rfl (by rfl) (fun wv => by go_simp; try with_reducible rfl) ?_) | (refine WkT.step (m := 7) (k := 5) (v := _) rfl (by rfl) (by kernel_rfl) (fun wv hS => by obtain ⟨s0, s1, s2, s3⟩ := hS; go_simp; try with_reducible rfl) ?_)
        try simp only [Act.put, List.getElem_toArray, List.getElem_cons_succ, List.getElem_cons_zero, List.setIfInBounds_toArray, List.set_cons_zero, List.set_cons_succ]
        first | (refine WkT.skip (m := 6) (k := 6) rfl (by rfl) ?_) | (refine WkT.pure (m := 6) (k := 6) (v := _) rfl (by rfl) (fun wv => by go_simp; try with_reducible rfl) ?_) | (refine WkT.step (m := 6) (k := 6) (v := _) rfl (by rfl) (by kernel_rfl) (fun wv hS => by obtain ⟨s0, s1, s2, s3⟩ := hS; go_simp; try with_reducible rfl) ?_)
        try simp only [Act.put, List.getElem_toArray, List.getElem_cons_succ, List.getElem_cons_zero, List.setIfInBounds_toArray, List.set_cons_zero, List.set_cons_succ]
        first | (refine WkT.skip (m := 5) (k := 7) rfl (by rfl) ?_) | (refine WkT.pure (m := 5) (k := 7) (v := _) rfl (by rfl) (fun wv => by go_simp; try with_reducible rfl) ?_) | (refine WkT.step (m := 5) (k := 7) (v := _) rfl (by rfl) (by kernel_rfl) (fun wv hS => by obtain ⟨s0, s1, s2, s3⟩ := hS; go_simp; try with_reducible rfl) ?_)
        try simp only [Act.put, List.getElem_toArray, List.getElem_cons_succ, List.getElem_cons_zero, List.setIfInBounds_toArray, List.set_cons_zero, List.set_cons_succ]
        first | (refine WkT.skip (m := 4) (k := 8) rfl (by rfl) ?_) | (refine WkT.pure (m := 4) (k := 8) (v := _) rfl (by rfl) (fun wv => by go_simp; try with_reducible rfl) ?_) | (refine WkT.step (m := 4) (k := 8) (v := _) rfl (by rfl) (by kernel_rfl) (fun wv hS => by obtain ⟨s0, s1, s2, s3⟩ := hS; go_simp; try with_reducible rfl) ?_)
        try simp only [Act.put, List.getElem_toArray, List.getElem_cons_succ, List.getElem_cons_zero, List.setIfInBounds_toArray, List.set_cons_zero, List.set_cons_succ]
        first | (refine WkT.skip (m := 3) (k := 9) rfl (by rfl) ?_) | (refine WkT.pure (m := 3) (k := 9) (v := _) rfl (by rfl) (fun wv => by go_simp; try with_reducible rfl) ?_) | (refine WkT.step (m := 3) (k := 9) (v := _) rfl (by rfl) (by kernel_rfl) (fun wv hS => by obtain ⟨s0, s1, s2, s3⟩ := hS; go_simp; try with_reducible rfl) ?_)
        try simp only [Act.put, List.getElem_toArray, List.getElem_cons_succ, List.getElem_cons_zero, List.setIfInBounds_toArray, List.set_cons_zero, List.set_cons_succ]
        first | (refine WkT.skip (m := 2) (k := 10) rfl (by rfl) ?_) | (refine WkT.pure (m := 2) (k := 10) (v := _) rfl (by rfl) (fun wv => by go_simp; try with_reducible rfl) ?_) | (refine WkT.step (m := 2) (k := 10) (v := _) rfl (by rfl) (by kernel_rfl) (fun wv hS => by obtain ⟨s0, s1, s2, s3⟩ := hS; go_simp; try with_reducible rfl) ?_)
        try simp only [Act.put, List.getElem_toArray, List.getElem_cons_succ, List.getElem_cons_zero, List.setIfInBounds_toArray, List.set_cons_zero, List.set_cons_succ]
        first | (refine WkT.skip (m := 1) (k := 11) rfl (by rfl) ?_) | (refine WkT.pure (m := 1) (k := 11) (v := _) rfl (by rfl) (fun wv => by go_simp; try with_reducible rfl) ?_) | (refine WkT.step (m := 1) (k := 11) (v := _) rfl (by rfl) (by kernel_rfl) (fun wv hS => by obtain ⟨s0, s1, s2, s3⟩ := hS; go_simp; try with_reducible rfl) ?_)
        try simp only [Act.put, List.getElem_toArray, List.getElem_cons_succ, List.getElem_cons_zero, List.setIfInBounds_toArray, List.set_cons_zero, List.set_cons_succ]
        first | (refine WkT.skip (m := 0) (k := 12) rfl (by rfl) ?_) | (refine WkT.pure (m := 0) (k := 12) (v := _) rfl (by rfl) (fun wv => by go_simp; try with_reducible rfl) ?_) | (refine WkT.step (m := 0) (k := 12) (v := _) rfl (by rfl) (by kernel_rfl) (fun wv hS => by obtain ⟨s0, s1, s2, s3⟩ := hS; go_simp; try with_reducible rfl) ?_)
        try simp only [Act.put, List.getElem_toArray, List.getElem_cons_succ, List.getElem_cons_zero, List.setIfInBounds_toArray, List.set_cons_zero, List.set_cons_succ]
        refine WkT.done fun wE hE => ?_
        obtain ⟨mE, c0, c1, c2⟩ := hE
        simp only [List.drop_succ_cons, List.drop_zero]
        have M3 := mE
        have MA := Mk.alloc wE (.cells #[.int .i64 (ifN y.nd y.ing)] 3)
        have hn1 := has_new .i64 wE 3 (ifN y.nd y.ing)
        have ho3 := own_keptR (own_keptR hown mE) MA
        have hlo3 := Nat.le_trans (Nat.le_trans hlow mE.size) MA.size
        have oo3 := (oo.mk mE hs2 (.inr (.inr (Nat.le_refl _)))).mk MA (Nat.le_trans hs2 mE.size) (.inr (.inr (Nat.le_refl _)))
        go_wp2_with (at_builtin; refine wpList_app rfl (.tmp 21) (.tmp 34) 66 rfl W1.heap.size 3 i0 Tryz.underlying66 hi hz0 hz1 hby _ L (L).length rfl ho3 _ 1 1 [ifN y.nd y.ing] rfl (fun h => by cases h) hn1 (by first | omega | (rw [List.length_append]; simp; omega)) hlo3 ?_; intro v2 w4 ho2 hg2 hvb2)
        have hMn := ((hM.trans mE).trans MA).appR hg2 (fun g hg => (ho3.lt g hg).1)
        have oon := oo3.grown hg2 (fun g hg => HVB.out g hg) (Nat.le_trans (Nat.le_trans hs2 mE.size) MA.size)
        have hsn := Nat.le_trans (Nat.le_trans (Nat.le_trans hs2 mE.size) MA.size) hg2.size
        have hvn : ∀ g, v2.ownBlock = some g → g < lo ∨ w2.heap.size ≤ g := fun g hg => by
          rcases hvb2 with hv | hv
          · exact HVB.out g (hv ▸ hg)
          · rw [hv, World.size_alloc] at hg; injection hg with hg; have := Nat.le_trans hs2 mE.size; omega
        replace HVB := Lib.hid hvn
        have hLn : (L ++ [ifN y.nd y.ing]).length = (L).length + 1 := by simp
        rw [← hLn] at ho2
        have HLn := Lib.hid hLn
        clear hvn hLn ho3 hlo3 oo3 hvb2
        obtain ⟨b9, off9, y9, eb9, _, hx9, g0, g1, g2⟩ := HasStep.at _ _ _ _ _ _ oon.has hlt
        simp only [Option.some.injEq, Addr.mk.injEq, and_true] at eb9
        obtain ⟨rfl, rfl⟩ := eb9
        obtain rfl : y = y9 := hx.out.trans hx9.out.symm
        have hlown := hMn.size
        clear hg2 hn1 MA M3 mE c0 c1 c2 hown hM oo hs2 hlow hbr
        go_wp2_with fail
        simp only [noPan]
        have c0 := g0
        have c1 := g1
        have c2 := g2
        have hown := ho2
        have hM := hMn
        have oo := oon
        have hs2 := hsn
        have hlow := hlown
        clear g0 g1 g2 ho2 hMn oon hsn hlown
        have hbr := World.block_lt_of_cell? _ _ c0
        simp only at hbr
        cases e2 : (y.eg == 0)
        · have e2' : (y.eg != 0) = true := by simp only [bne, e2]; rfl
          have HBq := Lib.hid (show endB y = [ifN y.nd y.eg] from if_neg (by simpa using e2))
          clear e2
          go_wp2_with fail
          refine wp_region_wkt (fun w' => Mk0 w4 w' ∧ w'.cell? ⟨b, off + k * 3, none⟩ = some (.int .i64 y.nd) ∧ w'.cell? ⟨b, off + k * 3 + 1, none⟩ = some (.int .i64 y.ing) ∧ w'.cell? ⟨b, off + k * 3 + 2, none⟩ = some (.int .i64 y.eg)) 13 (by kernel_rfl) (by kernel_rfl) (by kernel_rfl) (by decide) (⟨Mk.drew1 _, c0, c1, c2⟩) ?_
          change WkT _ _ _ _ _ 13 0 _
          first | (refine WkT.skip (m := 12) (k := 0) rfl (by rfl) ?_) | (refine WkT.pure (m := 12) (k := 0) (v := _) rfl (by rfl) (fun wv => by go_simp; try with_reducible rfl) ?_) | (refine WkT.step (m := 12) (k := 0) (v := _) rfl (by rfl) (by kernel_rfl) (fun wv hS => by obtain ⟨s0, s1, s2, s3⟩ := hS; go_simp; try with_reducible rfl) ?_)
          try simp only [Act.put, List.getElem_toArray, List.getElem_cons_zero, List.setIfInBounds_toArray, List.set_cons_zero, List.set_cons_succ]
          first | (refine WkT.skip (m := 11) (k := 1) rfl (by rfl) ?_) | (refine WkT.pure (m := 11) (k := 1) (v := _) rfl (by rfl) (fun wv => by go_simp; try with_reducible rfl) ?_) | (refine WkT.step (m := 11) (k := 1) (v := _) rfl (by rfl) (by kernel_rfl) (fun wv hS => by obtain ⟨s0, s1, s2, s3⟩ := hS; go_simp; try with_reducible rfl) ?_)
          try simp only [Act.put, List.getElem_toArray, List.getElem_cons_succ, List.getElem_cons_zero, List.setIfInBounds_toArray, List.set_cons_zero, List.set_cons_succ]
          first | (refine WkT.skip (m := 10) (k := 2) rfl (by rfl) ?_) | (refine WkT.pure (m := 10) (k := 2) (v := _) rfl (by rfl) (fun wv => by go_simp; try with_reducible rfl) ?_) | (refine WkT.step (m := 10) (k := 2) (v := _) rfl (by rfl) (by kernel_rfl) (fun wv hS => by obtain ⟨s0, s1, s2, s3⟩ := hS; go_simp; try with_reducible rfl) ?_)
          try simp only [Act.put, List.getElem_toArray, List.getElem_cons_succ, List.getElem_cons_zero, List.setIfInBounds_toArray, List.set_cons_zero, List.set_cons_succ]
          first | (refine WkT.skip (m := 9) (k := 3) rfl (by rfl) ?_) | (refine WkT.pure (m := 9) (k := 3) (v := _) rfl (by rfl) (fun wv => by go_simp; try with_reducible rfl) ?_) | (refine WkT.step (m := 9) (k := 3) (v := _) rfl (by rfl) (by kernel_rfl) (fun wv hS => by obtain ⟨s0, s1, s2, s3⟩ := hS; go_simp; try with_reducible rfl) ?_)
          try simp only [Act.put, List.getElem_toArray, List.getElem_cons_succ, List.getElem_cons_zero, List.setIfInBounds_toArray, List.set_cons_zero, List.set_cons_succ]
          first | (refine WkT.skip (m := 8) (k := 4) rfl (by rfl) ?_) | (refine WkT.pure (m := 8) (k := 4) (v := _) rfl (by rfl) (fun wv => by go_simp; try with_reducible rfl) ?_) | (refine WkT.step (m := 8) (k := 4) (v := _) rfl (by rfl) (by kernel_rfl) (fun wv hS => by obtain ⟨s0, s1, s2, s3⟩ := hS; go_simp; try with_reducible rfl) ?_)
          try simp only [Act.put, List.getElem_toArray, List.getElem_cons_succ, List.getElem_cons_zero, List.setIfInBounds_toArray, List.set_cons_zero, List.set_cons_succ]
          first | (refine WkT.skip (m := 7) (k := 5) rfl (by rfl) ?_) | (refine WkT.pure (m := 7) (k := 5) (v := _) rfl (by rfl) (fun wv => by go_simp; try with_reducible rfl) ?_) | (refine WkT.step (m := 7) (k := 5) (v := _) rfl (by rfl) (by kernel_rfl) (fun wv hS => by obtain ⟨s0, s1, s2, s3⟩ := hS; go_simp; try with_reducible rfl) ?_)
          try simp only [Act.put, List.getElem_toArray, List.getElem_cons_succ, List.getElem_cons_zero, List.setIfInBounds_toArray, List.set_cons_zero, List.set_cons_succ]
          first | (refine WkT.skip (m := 6) (k := 6) rfl (by rfl) ?_) | (refine WkT.pure (m := 6) (k := 6) (v := _) rfl (by rfl) (fun wv => by go_simp; try with_reducible rfl) ?_) | (refine WkT.step (m := 6) (k := 6) (v := _) rfl (by rfl) (by kernel_rfl) (fun wv hS => by obtain ⟨s0, s1, s2, s3⟩ := hS; go_simp; try with_reducible rfl) ?_)
          try simp only [Act.put, List.getElem_toArray, List.getElem_cons_succ, List.getElem_cons_zero, List.setIfInBounds_toArray, List.set_cons_zero, List.set_cons_succ]
          first | (refine WkT.skip (m := 5) (k := 7) rfl (by rfl) ?_) | (refine WkT.pure (m := 5) (k := 7) (v := _) rfl (by rfl) (fun wv => by go_simp; try with_reducible rfl) ?_) | (refine WkT.step (m := 5) (k := 7) (v := _) rfl (by rfl) (by kernel_rfl) (fun wv hS => by obtain ⟨s0, s1, s2, s3⟩ := hS; go_simp; try with_reducible rfl) ?_)
          try simp only [Act.put, List.getElem_toArray, List.getElem_cons_succ, List.getElem_cons_zero, List.setIfInBounds_toArray, List.set_cons_zero, List.set_cons_succ]
          first | (refine WkT.skip (m := 4) (k := 8) rfl (by rfl) ?_) | (refine WkT.pure (m := 4) (k := 8) (v := _) rfl (by rfl) (fun wv => by go_simp; try with_reducible rfl) ?_) | (refine WkT.step (m := 4) (k := 8) (v := _) rfl (by rfl) (by kernel_rfl) (fun wv hS => by obtain ⟨s0, s1, s2, s3⟩ := hS; go_simp; try with_reducible rfl) ?_)
          try simp only [Act.put, List.getElem_toArray, List.getElem_cons_succ, List.getElem_cons_zero, List.setIfInBounds_toArray, List.set_cons_zero, List.set_cons_succ]
          first | (refine WkT.skip (m := 3) (k := 9) rfl (by rfl) ?_) | (refine WkT.pure (m := 3) (k := 9) (v := _) rfl (by rfl) (fun wv => by go_simp; try with_reducible rfl) ?_) | (refine WkT.step (m := 3) (k := 9) (v := _) rfl (by rfl) (by kernel_rfl) (fun wv hS => by obtain ⟨s0, s1, s2, s3⟩ := hS; go_simp; try with_reducible rfl) ?_)
          try simp only [Act.put, List.getElem_toArray, List.getElem_cons_succ, List.getElem_cons_zero, List.setIfInBounds_toArray, List.set_cons_zero, List.set_cons_succ]
          first | (refine WkT.skip (m := 2) (k := 10) rfl (by rfl) ?_) | (refine WkT.pure (m := 2) (k := 10) (v := _) rfl (by rfl) (fun wv => by go_simp; try with_reducible rfl) ?_) | (refine WkT.step (m := 2) (k := 10) (v := _) rfl (by rfl) (by kernel_rfl) (fun wv hS => by obtain ⟨s0, s1, s2, s3⟩ := hS; go_simp; try with_reducible rfl) ?_)
          try simp only [Act.put, List.getElem_toArray, List.getElem_cons_succ, List.getElem_cons_zero, List.setIfInBounds_toArray, List.set_cons_zero, List.set_cons_succ]
          first | (refine WkT.skip (m := 1) (k := 11) rfl (by rfl) ?_) | (refine WkT.pure (m := 1) (k := 11) (v := _) rfl (by rfl) (fun wv => by go_simp; try with_reducible rfl) ?_) | (refine WkT.step (m := 1) (k := 11) (v := _) rfl (by rfl) (by kernel_rfl) (fun wv hS => by obtain ⟨s0, s1, s2, s3⟩ := hS; go_simp; try with_reducible rfl) ?_)
          try simp only [Act.put, List.getElem_toArray, List.getElem_cons_succ, List.getElem_cons_zero, List.setIfInBounds_toArray, List.set_cons_zero, List.set_cons_succ]
          first | (refine WkT.skip (m := 0) (k := 12) rfl (by rfl) ?_) | (refine WkT.pure (m := 0) (k := 12) (v := _) rfl (by rfl) (fun wv => by go_simp; try with_reducible rfl) ?_) | (refine WkT.step (m := 0) (k := 12) (v := _) rfl (by rfl) (by kernel_rfl) (fun wv hS => by obtain ⟨s0, s1, s2, s3⟩ := hS; go_simp; try with_reducible rfl) ?_)
          try simp only [Act.put, List.getElem_toArray, List.getElem_cons_succ, List.getElem_cons_zero, List.setIfInBounds_toArray, List.set_cons_zero, List.set_cons_succ]
          refine WkT.done fun wE hE => ?_
          obtain ⟨mE, c0, c1, c2⟩ := hE
          simp only [List.drop_succ_cons, List.drop_zero]
          have M3 := mE
          have MA := Mk.alloc wE (.cells #[.int .i64 (ifN y.nd y.eg)] 3)
          have hn1 := has_new .i64 wE 3 (ifN y.nd y.eg)
          have ho3 := own_keptR (own_keptR hown mE) MA
          have hlo3 := Nat.le_trans (Nat.le_trans hlow mE.size) MA.size
          have oo3 := (oo.mk mE hs2 (.inr (.inr (Nat.le_refl _)))).mk MA (Nat.le_trans hs2 mE.size) (.inr (.inr (Nat.le_refl _)))
          go_wp2_with (at_builtin; refine wpList_app rfl (.tmp 42) (.tmp 55) 66 rfl W1.heap.size 3 i0 Tryz.underlying66 hi hz0 hz1 hby _ (L ++ [ifN y.nd y.ing]) ((L ++ [ifN y.nd y.ing])).length rfl ho3 _ 1 1 [ifN y.nd y.eg] rfl (fun h => by cases h) hn1 (by first | omega | (rw [List.length_append]; simp; omega)) hlo3 ?_; intro v2 w4 ho2 hg2 hvb2)
          have hMn := ((hM.trans mE).trans MA).appR hg2 (fun g hg => (ho3.lt g hg).1)
          have oon := oo3.grown hg2 (fun g hg => HVB.out g hg) (Nat.le_trans (Nat.le_trans hs2 mE.size) MA.size)
          have hsn := Nat.le_trans (Nat.le_trans (Nat.le_trans hs2 mE.size) MA.size) hg2.size
          have hvn : ∀ g, v2.ownBlock = some g → g < lo ∨ w2.heap.size ≤ g := fun g hg => by
            rcases hvb2 with hv | hv
            · exact HVB.out g (hv ▸ hg)
            · rw [hv, World.size_alloc] at hg; injection hg with hg; have := Nat.le_trans hs2 mE.size; omega
          replace HVB := Lib.hid hvn
          have hLn : ((L ++ [ifN y.nd y.ing]) ++ [ifN y.nd y.eg]).length = ((L ++ [ifN y.nd y.ing])).length + 1 := by simp
          rw [← hLn] at ho2
          have HLn := Lib.hid hLn
          clear hvn hLn ho3 hlo3 oo3 hvb2
          obtain ⟨b9, off9, y9, eb9, _, hx9, g0, g1, g2⟩ := HasStep.at _ _ _ _ _ _ oon.has hlt
          simp only [Option.some.injEq, Addr.mk.injEq, and_true] at eb9
          obtain ⟨rfl, rfl⟩ := eb9
          obtain rfl : y = y9 := hx.out.trans hx9.out.symm
          have hlown := hMn.size
          clear hg2 hn1 MA M3 mE c0 c1 c2 hown hM oo hs2 hlow hbr
          go_wp2_with fail
          simp only [noPan]
          go_wp2_with fail
          go_roundw
          case rel => exact ⟨k + 1, by omega, by go_num, by rw [HE.out, HA.out, HBq.out, ← List.append_assoc]; exact ho2, HVB.out, oon, hMn, hsn⟩
          case measure => simp [intOf]; omega
        · have e2' : (y.eg != 0) = false := by simp only [bne, e2]; rfl
          have HBq := Lib.hid (show endB y = [] from if_pos (by simpa using e2))
          clear e2
          go_wp2_with fail
          go_roundw
          case rel => exact ⟨k + 1, by omega, by go_num, by rw [HE.out, HA.out, HBq.out, List.append_nil]; exact hown, HVB.out, oo, hM, hs2⟩
          case measure => simp [intOf]; omega
      · have e1' : (y.ing != 0) = false := by simp only [bne, e1]; rfl
        have HA := Lib.hid (show endA y = [] from if_pos (by simpa using e1))
        clear e1
        cases e2 : (y.eg == 0)
        · have e2' : (y.eg != 0) = true := by simp only [bne, e2]; rfl
          have HBq := Lib.hid (show endB y = [ifN y.nd y.eg] from if_neg (by simpa using e2))
          clear e2
          go_wp2_with fail
          refine wp_region_wkt (fun w' => Mk0 wr w' ∧ w'.cell? ⟨b, off + k * 3, none⟩ = some (.int .i64 y.nd) ∧ w'.cell? ⟨b, off + k * 3 + 1, none⟩ = some (.int .i64 y.ing) ∧ w'.cell? ⟨b, off + k * 3 + 2, none⟩ = some (.int .i64 y.eg)) 13 (by kernel_rfl) (by kernel_rfl) (by kernel_rfl) (by decide) (⟨Mk.drew1 _, c0, c1, c2⟩) ?_
          change WkT _ _ _ _ _ 13 0 _
          first | (refine WkT.skip (m := 12) (k := 0) rfl (by rfl) ?_) | (refine WkT.pure (m := 12) (k := 0) (v := _) rfl (by rfl) (fun wv => by go_simp; try with_reducible rfl) ?_) | (refine WkT.step (m := 12) (k := 0) (v := _) rfl (by rfl) (by kernel_rfl) (fun wv hS => by obtain ⟨s0, s1, s2, s3⟩ := hS; go_simp; try with_reducible rfl) ?_)
          try simp only [Act.put, List.getElem_toArray, List.getElem_cons_zero, List.setIfInBounds_toArray, List.set_cons_zero, List.set_cons_succ]
          first | (refine WkT.skip (m := 11) (k := 1) rfl (by rfl) ?_) | (refine WkT.pure (m := 11) (k := 1) (v := _) rfl (by rfl) (fun wv => by go_simp; try with_reducible rfl) ?_) | (refine WkT.step (m := 11) (k := 1) (v := _) rfl (by rfl) (by kernel_rfl) (fun wv hS => by obtain ⟨s0, s1, s2, s3⟩ := hS; go_simp; try with_reducible rfl) ?_)
          try simp only [Act.put, List.getElem_toArray, List.getElem_cons_succ, List.getElem_cons_zero, List.setIfInBounds_toArray, List.set_cons_zero, List.set_cons_succ]
          first | (refine WkT.skip (m := 10) (k := 2) rfl (by rfl) ?_) | (refine WkT.pure (m := 10) (k := 2) (v := _) rfl (by rfl) (fun wv => by go_simp; try with_reducible rfl) ?_) | (refine WkT.step (m := 10) (k := 2) (v := _) rfl (by rfl) (by kernel_rfl) (fun wv hS => by obtain ⟨s0, s1, s2, s3⟩ := hS; go_simp; try with_reducible rfl) ?_)
          try simp only [Act.put, List.getElem_toArray, List.getElem_cons_succ, List.getElem_cons_zero, List.setIfInBounds_toArray, List.set_cons_zero, List.set_cons_succ]
          first | (refine WkT.skip (m := 9) (k := 3) rfl (by rfl) ?_) | (refine WkT.pure (m := 9) (k := 3) (v := _) rfl (by rfl) (fun wv => by go_simp; try with_reducible rfl) ?_) | (refine WkT.step (m := 9) (k := 3) (v := _) rfl (by rfl) (by kernel_rfl) (fun wv hS => by obtain ⟨s0, s1, s2, s3⟩ := hS; go_simp; try with_reducible rfl) ?_)
          try simp only [Act.put, List.getElem_toArray, List.getElem_cons_succ, List.getElem_cons_zero, List.setIfInBounds_toArray, List.set_cons_zero, List.set_cons_succ]
          first | (refine WkT.skip (m := 8) (k := 4) rfl (by rfl) ?_) | (refine WkT.pure (m := 8) (k := 4) (v := _) rfl (by rfl) (fun wv => by go_simp; try with_reducible rfl) ?_) | (refine WkT.step (m := 8) (k := 4) (v := _) rfl (by rfl) (by kernel_rfl) (fun wv hS => by obtain ⟨s0, s1, s2, s3⟩ := hS; go_simp; try with_reducible rfl) ?_)
          try simp only [Act.put, List.getElem_toArray, List.getElem_cons_succ, List.getElem_cons_zero, List.setIfInBounds_toArray, List.set_cons_zero, List.set_cons_succ]
          first | (refine WkT.skip (m := 7) (k := 5) rfl (by rfl) ?_) | (refine WkT.pure (m := 7) (k := 5) (v := _) rfl (by rfl) (fun wv => by go_simp; try with_reducible rfl) ?_) | (refine WkT.step (m := 7) (k := 5) (v := _) rfl (by rfl) (by kernel_rfl) (fun wv hS => by obtain ⟨s0, s1, s2, s3⟩ := hS; go_simp; try with_reducible rfl) ?_)
          try simp only [Act.put, List.getElem_toArray, List.getElem_cons_succ, List.getElem_cons_zero, List.setIfInBounds_toArray, List.set_cons_zero, List.set_cons_succ]
          first | (refine WkT.skip (m := 6) (k := 6) rfl (by rfl) ?_) | (refine WkT.pure (m := 6) (k := 6) (v := _) rfl (by rfl) (fun wv => by go_simp; try with_reducible rfl) ?_) | (refine WkT.step (m := 6) (k := 6) (v := _) rfl (by rfl) (by kernel_rfl) (fun wv hS => by obtain ⟨s0, s1, s2, s3⟩ := hS; go_simp; try with_reducible rfl) ?_)
          try simp only [Act.put, List.getElem_toArray, List.getElem_cons_succ, List.getElem_cons_zero, List.setIfInBounds_toArray, List.set_cons_zero, List.set_cons_succ]
          first | (refine WkT.skip (m := 5) (k := 7) rfl (by rfl) ?_) | (refine WkT.pure (m := 5) (k := 7) (v := _) rfl (by rfl) (fun wv => by go_simp; try with_reducible rfl) ?_) | (refine WkT.step (m := 5) (k := 7) (v := _) rfl (by rfl) (by kernel_rfl) (fun wv hS => by obtain ⟨s0, s1, s2, s3⟩ := hS; go_simp; try with_reducible rfl) ?_)
          try simp only [Act.put, List.getElem_toArray, List.getElem_cons_succ, List.getElem_cons_zero, List.setIfInBounds_toArray, List.set_cons_zero, List.set_cons_succ]
          first | (refine WkT.skip (m := 4) (k := 8) rfl (by rfl) ?_) | (refine WkT.pure (m := 4) (k := 8) (v := _) rfl (by rfl) (fun wv => by go_simp; try with_reducible rfl) ?_) | (refine WkT.step (m := 4) (k := 8) (v := _) rfl (by rfl) (by kernel_rfl) (fun wv hS => by obtain ⟨s0, s1, s2, s3⟩ := hS; go_simp; try with_reducible rfl) ?_)
          try simp only [Act.put, List.getElem_toArray, List.getElem_cons_succ, List.getElem_cons_zero, List.setIfInBounds_toArray, List.set_cons_zero, List.set_cons_succ]
          first | (refine WkT.skip (m := 3) (k := 9) rfl (by rfl) ?_) | (refine WkT.pure (m := 3) (k := 9) (v := _) rfl (by rfl) (fun wv => by go_simp; try with_reducible rfl) ?_) | (refine WkT.step (m := 3) (k := 9) (v := _) rfl (by rfl) (by kernel_rfl) (fun wv hS => by obtain ⟨s0, s1, s2, s3⟩ := hS; go_simp; try with_reducible rfl) ?_)
          try simp only [Act.put, List.getElem_toArray, List.getElem_cons_succ, List.getElem_cons_zero, List.setIfInBounds_toArray, List.set_cons_zero, List.set_cons_succ]
          first | (refine WkT.skip (m := 2) (k := 10) rfl (by rfl) ?_) | (refine WkT.pure (m := 2) (k := 10) (v := _) rfl (by rfl) (fun wv => by go_simp; try with_reducible rfl) ?_) | (refine WkT.step (m := 2) (k := 10) (v := _) rfl (by rfl) (by kernel_rfl) (fun wv hS => by obtain ⟨s0, s1, s2, s3⟩ := hS; go_simp; try with_reducible rfl) ?_)
          try simp only [Act.put, List.getElem_toArray, List.getElem_cons_succ, List.getElem_cons_zero, List.setIfInBounds_toArray, List.set_cons_zero, List.set_cons_succ]
          first | (refine WkT.skip (m := 1) (k := 11) rfl (by rfl) ?_) | (refine WkT.pure (m := 1) (k := 11) (v := _) rfl (by rfl) (fun wv => by go_simp; try with_reducible rfl) ?_) | (refine WkT.step (m := 1) (k := 11) (v := _) rfl (by rfl) (by kernel_rfl) (fun wv hS => by obtain ⟨s0, s1, s2, s3⟩ := hS; go_simp; try with_reducible rfl) ?_)
          try simp only [Act.put, List.getElem_toArray, List.getElem_cons_succ, List.getElem_cons_zero, List.setIfInBounds_toArray, List.set_cons_zero, List.set_cons_succ]
          first | (refine WkT.skip (m := 0) (k := 12) rfl (by rfl) ?_) | (refine WkT.pure (m := 0) (k := 12) (v := _) rfl (by rfl) (fun wv => by go_simp; try with_reducible rfl) ?_) | (refine WkT.step (m := 0) (k := 12) (v := _) rfl (by rfl) (by kernel_rfl) (fun wv hS => by obtain ⟨s0, s1, s2, s3⟩ := hS; go_simp; try with_reducible rfl) ?_)
          try simp only [Act.put, List.getElem_toArray, List.getElem_cons_succ, List.getElem_cons_zero, List.setIfInBounds_toArray, List.set_cons_zero, List.set_cons_succ]
          refine WkT.done fun wE hE => ?_
          obtain ⟨mE, c0, c1, c2⟩ := hE
          simp only [List.drop_succ_cons, List.drop_zero]
          have M3 := mE
          have MA := Mk.alloc wE (.cells #[.int .i64 (ifN y.nd y.eg)] 3)
          have hn1 := has_new .i64 wE 3 (ifN y.nd y.eg)
          have ho3 := own_keptR (own_keptR hown mE) MA
          have hlo3 := Nat.le_trans (Nat.le_trans hlow mE.size) MA.size
          have oo3 := (oo.mk mE hs2 (.inr (.inr (Nat.le_refl _)))).mk MA (Nat.le_trans hs2 mE.size) (.inr (.inr (Nat.le_refl _)))
          go_wp2_with (at_builtin; refine wpList_app rfl (.tmp 42) (.tmp 55) 66 rfl W1.heap.size 3 i0 Tryz.underlying66 hi hz0 hz1 hby _ L (L).length rfl ho3 _ 1 1 [ifN y.nd y.eg] rfl (fun h => by cases h) hn1 (by first | omega | (rw [List.length_append]; simp; omega)) hlo3 ?_; intro v2 w4 ho2 hg2 hvb2)
          have hMn := ((hM.trans mE).trans MA).appR hg2 (fun g hg => (ho3.lt g hg).1)
          have oon := oo3.grown hg2 (fun g hg => HVB.out g hg) (Nat.le_trans (Nat.le_trans hs2 mE.size) MA.size)
          have hsn := Nat.le_trans (Nat.le_trans (Nat.le_trans hs2 mE.size) MA.size) hg2.size
          have hvn : ∀ g, v2.ownBlock = some g → g < lo ∨ w2.heap.size ≤ g := fun g hg => by
            rcases hvb2 with hv | hv
            · exact HVB.out g (hv ▸ hg)
            · rw [hv, World.size_alloc] at hg; injection hg with hg; have := Nat.le_trans hs2 mE.size; omega
          replace HVB := Lib.hid hvn
          have hLn : (L ++ [ifN y.nd y.eg]).length = (L).length + 1 := by simp
          rw [← hLn] at ho2
          have HLn := Lib.hid hLn
          clear hvn hLn ho3 hlo3 oo3 hvb2
          obtain ⟨b9, off9, y9, eb9, _, hx9, g0, g1, g2⟩ := HasStep.at _ _ _ _ _ _ oon.has hlt
          simp only [Option.some.injEq, Addr.mk.injEq, and_true] at eb9
          obtain ⟨rfl, rfl⟩ := eb9
          obtain rfl : y = y9 := hx.out.trans hx9.out.symm
          have hlown := hMn.size
          clear hg2 hn1 MA M3 mE c0 c1 c2 hown hM oo hs2 hlow hbr
          go_wp2_with fail
          simp only [noPan]
          go_wp2_with fail
          go_roundw
          case rel => exact ⟨k + 1, by omega, by go_num, by rw [HE.out, HA.out, HBq.out, List.nil_append]; exact ho2, HVB.out, oon, hMn, hsn⟩
          case measure => simp [intOf]; omega
        · have e2' : (y.eg != 0) = false := by simp only [bne, e2]; rfl
          have HBq := Lib.hid (show endB y = [] from if_pos (by simpa using e2))
          clear e2
          go_wp2_with fail
          go_roundw
          case rel => exact ⟨k + 1, by omega, by go_num, by rw [HE.out, HA.out, HBq.out, List.append_nil, List.append_nil]; exact hown, HVB.out, oo, hM, hs2⟩
          case measure => simp [intOf]; omega
    · obtain rfl : k = N := by omega
      go_wp2_with fail
      go_ret
      rw [HR.out]
      exact OutOwnI.of (own_low hown M0.size) (M0.trans hM)

set_option maxRecDepth 100000 in
set_option maxHeartbeats 4000000 in
theorem implUsed (a : Option Addr) (n c B : Nat) (ps : List TPathPart) (w : World) (h : HasPathPart w B a n ps) (hB : B ≤ w.heap.size) (hn : szPathPart ps n ≤ 1048576) :
    Calls Tryz.prog 43 #[.agg #[.slice a n c]] w (OutOwnI 3 w (usedAll ps n)) := by
  obtain ⟨i0, hi, hz0, hz1, hz2⟩ := info_parts infoI64
  have hby : i0.bytes ≤ 8 := by rw [hz2]; decide
  have M0 := Mk.alloc w (Obj.cells #[Value.slice a n c] 39)
  have hsz := Lib.hid (World.size_alloc w (Obj.cells #[Value.slice a n c] 39))
  have k0 : (w.alloc (Obj.cells #[Value.slice a n c] 39)).cell? ⟨w.heap.size, 0, none⟩ = some (.slice a n c) := by simp [go_sem]
  generalize hW1 : w.alloc (Obj.cells #[Value.slice a n c] 39) = W1 at *
  have k0' := (Mk.alloc W1 (.cells #[] 3)).cellAt k0
  go_enter Tryz.func43, Tryz.ntmps43
  go_wp2_with fail
  clear hW1 k0 k0'
  have hl0 := own_empI W1 3
  have ML := Mk.alloc W1 (.cells #[] 3)
  have M1 := M0.trans ML
  refine (implStepsOf a n c B ps _ (h.mk M1 hB (.inr (Nat.le_refl _))) (Nat.le_trans hB M1.size) hn).mono ?_
  rintro e w2 ⟨A, N, cc, rfl, hcc, oo, m2⟩
  have hNle : N ≤ 1048576 := by have := pathSt_le ps n; have := oo.1; omega
  have HR := Lib.hid (show usedAll ps n = usedUp (pathSt ps n) N by unfold usedAll; rw [oo.1])
  have hl2 := own_keptR hl0 m2
  have M2 := ML.trans m2
  obtain ⟨lo, hlo⟩ : ∃ lo, Hid (lo = (W1.alloc (.cells #[] 3)).heap.size) := ⟨_, rfl⟩
  rw [← hlo.out] at oo
  have hlo1 : lo = W1.heap.size + 1 := by rw [hlo.out, World.size_alloc]
  have hb0 : ∀ g, (Value.slice (some ⟨W1.heap.size, 0, none⟩) 0 0).ownBlock = some g → g < lo ∨ w2.heap.size ≤ g := fun g hg => .inl (by
    have : W1.heap.size = g := by simpa [Value.ownBlock] using hg
    omega)
  have HLO := Lib.hid hlo1
  clear hl0 ML M1 m2 hlo1 hlo
  go_wp2_with fail
  go_loopw [3, 10] (fun v i wr => ∃ k : Nat, k ≤ N ∧ i = .int .i64 k ∧ wr.ownsRow W1.heap.size 3 1 v (usedUp (pathSt ps n) k).length ((usedUp (pathSt ps n) k).map (.int .i64)) ∧ (∀ g, v.ownBlock = some g → g < lo ∨ w2.heap.size ≤ g) ∧ OwnStep wr lo w2.heap.size A N (pathSt ps n) ∧ Mk0 W1 wr ∧ w2.heap.size ≤ wr.heap.size) (fun _ i _ => N - (intOf i).toNat)
  case atStart => exact ⟨0, Nat.zero_le _, rfl, hl2, hb0, oo, M2, Nat.le_refl _⟩
  case round =>
    clear hl2 hb0 oo M2
    obtain ⟨k, hk, rfl, hown, hvb, oo, hM, hs2⟩ := hrel
    have HVB := Lib.hid hvb
    clear hvb
    have hul := usedUp_len (pathSt ps n) k
    by_cases hlt : k < N
    · obtain ⟨b, off, y, rfl, hb, hx, c0, c1, c2⟩ := HasStep.at _ _ _ _ _ _ oo.has hlt
      have hbr := World.block_lt_of_cell? _ _ c0
      simp only at hbr
      have i1 : (0 : Int) ≤ (k : Int) := by omega
      have i2 : (k : Int) < (N : Int) := by omega
      have hlow := hM.size
      have HE := Lib.hid (show usedUp (pathSt ps n) (k + 1) = usedUp (pathSt ps n) k ++ (endA y ++ endB y) by rw [usedUp, ← hx.out])
      obtain ⟨L, hLq⟩ : ∃ L, Hid (L = usedUp (pathSt ps n) k) := ⟨_, rfl⟩
      rw [← hLq.out] at hown hul HE
      have MX := Mk.alloc wr (Obj.cells #[Value.int .i64 y.nd, Value.int .i64 y.ing, Value.int .i64 y.eg] 100)
      go_wp2_with fail
      refine (implEnds2 y _).mono ?_
      rintro e w3 ⟨v3, rfl, ow3, m3⟩
      obtain ⟨A3, c3, rfl, hcc3⟩ := ownsRow_slice ow3
      have hE3 := (ownsRow_own ow3).has
      have M3 := MX.trans m3
      have hown3 := own_keptR hown M3
      have hlo3 := Nat.le_trans hlow M3.size
      obtain ⟨m, hm⟩ : ∃ m, Hid (m = (endA y ++ endB y).length) := ⟨_, rfl⟩
      have hml : m ≤ 2 := by have h1 := endA_len y; have h2 := endB_len y; have := hm.out; rw [List.length_append] at this; omega
      rw [← hm.out] at hE3 ⊢
      go_wp2_with (at_builtin; refine wpList_app rfl (.tmp 14) (.tmp 16) 66 rfl W1.heap.size 3 i0 Tryz.underlying66 hi hz0 hz1 hby _ L L.length rfl hown3 _ m c3 (endA y ++ endB y) rfl hcc3 hE3 (by omega) hlo3 ?_; intro v2 w4 ho2 hg2 hvb2)
      have M4 := (hM.trans M3).appR hg2 (fun g hg => (hown3.lt g hg).1)
      have oo4 := (oo.mk M3 hs2 (.inr (.inr (Nat.le_refl _)))).grown hg2 (fun g hg => HVB.out g hg) (Nat.le_trans hs2 M3.size)
      have hs4 := Nat.le_trans (Nat.le_trans hs2 M3.size) hg2.size
      go_wp2_with fail
      go_roundw
      case rel =>
        refine ⟨k + 1, by omega, by go_num, by rw [HE.out, List.length_append, ← hm.out]; exact ho2, fun g hg => ?_, oo4, M4, hs4⟩
        rcases hvb2 with hv | hv
        · exact HVB.out g (hv ▸ hg)
        · rw [hv] at hg; injection hg with hg; have := Nat.le_trans hs2 M3.size; omega
      case measure => simp [intOf]; omega
    · obtain rfl : k = N := by omega
      go_wp2_with fail
      go_ret
      rw [HR.out]
      exact OutOwnI.of (own_low hown M0.size) (M0.trans hM)

end Go.Proofs.YtifhhfndoifbhaaGreat
