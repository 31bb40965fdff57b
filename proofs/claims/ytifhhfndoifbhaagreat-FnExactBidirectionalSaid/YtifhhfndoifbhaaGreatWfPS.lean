
/- WellFormedPath of the program. -/
import Derived.Test.YtifhhfndoifbhaaGreatWfPA
import Derived.Test.YtifhhfndoifbhaaGreatVPtS
namespace Go.Proofs.YtifhhfndoifbhaaGreat
open Go.ChangeShapes Go.WideShapes Go.ChangeAt Go.RowKit
set_option linter.unusedVariables false
def pOk (n0 : Nat) (zl : List TLink) (n1 : Nat) (x : TPathPart) : Bool := vpB n0 zl n1 x.kind x.ts x.beta x.hops x.hops.length
def wpI (n0 : Nat) (zl : List TLink) (n1 : Nat) (ps : List TPathPart) (k : Nat) : Bool := pOk n0 zl n1 (ps.getD k default) && (k == 0 || folP (ps.getD (k - 1) default) (ps.getD k default))
/-- A path is well-formed. -/
def wpB (n0 : Nat) (zl : List TLink) (n1 : Nat) (ps : List TPathPart) (n : Nat) : Bool := inB (n : Int) 1 3 && allN (wpI n0 zl n1 ps) n
theorem pOk_in {n0 : Nat} {zl : List TLink} {n1 : Nat} {x : TPathPart} (h : pOk n0 zl n1 x = true) : inB x.kind 1 4 = true ∧ 1 ≤ x.hops.length ∧ x.hops.length ≤ 8 := by
  unfold pOk vpB vpH at h
  simp only [Bool.and_eq_true] at h
  have h1 := of_decide_eq_true h.1.2.2.2
  exact ⟨h.1.1, by omega, by omega⟩
theorem wpI_ok {n0 : Nat} {zl : List TLink} {n1 : Nat} {ps : List TPathPart} {k q : Nat} (h : allN (wpI n0 zl n1 ps) k = true) (hq : q < k) : pOk n0 zl n1 (ps.getD q default) = true := by
  have := (allN_iff _ _).1 h q hq
  unfold wpI at this
  simp only [Bool.and_eq_true] at this
  exact this.1
set_option maxRecDepth 100000 in
set_option maxHeartbeats 4000000 in
theorem implWfP (a0 a1 : Option Addr) (n0 c0 n1 c1 B : Nat) (zl : List TLink) (a : Option Addr) (n c B' : Nat) (ps : List TPathPart) (w : World) (hl : HasLink w B a1 n1 zl) (hB : B ≤ w.heap.size) (hn0 : n0 ≤ 1048576) (hn1 : n1 ≤ 1048576) (h : HasPathPart w B' a n ps) (hB' : B' ≤ w.heap.size) (hn : szPathPart ps n ≤ 1048576) :
    Calls Tryz.prog 41 #[.agg #[.slice a0 n0 c0, .slice a1 n1 c1], .agg #[.slice a n c]] w fun e w' => e = .returned (.bool (wpB n0 zl n1 ps n)) ∧ Mk0 w w' := by
  have hnn := szPathPart_n ps n
  have M0 := (Mk.alloc w (Obj.cells #[Value.slice a0 n0 c0, Value.slice a1 n1 c1] 35)).new (Obj.cells #[Value.slice a n c] 39)
  have k0 : ((w.alloc (Obj.cells #[Value.slice a0 n0 c0, Value.slice a1 n1 c1] 35)).alloc (Obj.cells #[Value.slice a n c] 39)).cell? ⟨w.heap.size, 0, none⟩ = some (.slice a0 n0 c0) := by simp [go_sem]
  have k1 : ((w.alloc (Obj.cells #[Value.slice a0 n0 c0, Value.slice a1 n1 c1] 35)).alloc (Obj.cells #[Value.slice a n c] 39)).cell? ⟨w.heap.size, 1, none⟩ = some (.slice a1 n1 c1) := by simp [go_sem]
  have j0 : ((w.alloc (Obj.cells #[Value.slice a0 n0 c0, Value.slice a1 n1 c1] 35)).alloc (Obj.cells #[Value.slice a n c] 39)).cell? ⟨w.heap.size + 1, 0, none⟩ = some (.slice a n c) := by simp [go_sem]
  go_enter Tryz.func41, Tryz.ntmps41
  go_wp2_with fail
  refine (implIn (n : Int) 1 3 _).mono ?_
  rintro e w' ⟨rfl, rfl⟩
  cases g3 : inB (n : Int) 1 3
  · have HR := Lib.hid (show wpB n0 zl n1 ps n = false by unfold wpB; rw [g3]; rfl)
    go_wp2_with fail
    go_ret
    exact ⟨retB HR.out.symm, M0⟩
  · have HR := Lib.hid (show wpB n0 zl n1 ps n = allN (wpI n0 zl n1 ps) n by unfold wpB; rw [g3]; rfl)
    have hn3 : 1 ≤ n ∧ n ≤ 3 := by unfold inB at g3; have := of_decide_eq_true g3; omega
    clear g3
    go_wp2_with fail
    go_loopw [4, 15] (fun r i wr => r = .bool false ∧ ∃ k : Nat, k ≤ n ∧ i = .int .i64 k ∧ Hid (allN (wpI n0 zl n1 ps) k = true) ∧ Mk0 ((w.alloc (Obj.cells #[Value.slice a0 n0 c0, Value.slice a1 n1 c1] 35)).alloc (Obj.cells #[Value.slice a n c] 39)) wr) (fun _ i _ => n - (intOf i).toNat)
    case atStart => exact ⟨rfl, 0, Nat.zero_le _, rfl, rfl, Mk.refl _ _ _⟩
    case round =>
      obtain ⟨rfl, k, hk, rfl, hS, hM⟩ := hrel
      replace k0 := hM.cellAt k0
      replace k1 := hM.cellAt k1
      replace j0 := hM.cellAt j0
      have hM' := M0.trans hM
      by_cases hlt : k < n
      · obtain ⟨b, off, x, eb, hb2, hx, a3, n3, c3, d0, d1, d2, d3, r3, t3, t3', z3⟩ := HasPathPart.at _ _ _ _ _ _ (h.mk hM' hB' (.inr (Nat.le_refl _))) hlt
        subst eb
        have hs3 : n3 ≤ 1048576 := by have HS := szPathPart_at ps hlt; rw [← hx.out] at HS; unfold sePathPart at HS; have := r3.1; omega
        have HL3 := Lib.hid r3.1
        have i1 : (0 : Int) ≤ (k : Int) := by omega
        have i2 : (k : Int) < (n : Int) := by omega
        have HV := Lib.hid (show vpB n0 zl n1 x.kind x.ts x.beta x.hops n3 = pOk n0 zl n1 (ps.getD k default) by rw [← hx.out]; unfold pOk; rw [HL3.out])
        have hbr := World.block_lt_of_cell? _ _ d0
        have hbq := World.block_lt_of_cell? _ _ k0
        have hbj := World.block_lt_of_cell? _ _ j0
        simp only at hbr hbq hbj
        have MX := Mk.alloc wr (Obj.cells #[Value.int .i64 x.kind, Value.int .i64 x.ts, Value.int .i64 x.beta, Value.slice a3 n3 c3] 50)
        have q0 : (wr.alloc (Obj.cells #[Value.int .i64 x.kind, Value.int .i64 x.ts, Value.int .i64 x.beta, Value.slice a3 n3 c3] 50)).cell? ⟨wr.heap.size, 0, none⟩ = some (.int .i64 x.kind) := by simp [go_sem]
        have q1 : (wr.alloc (Obj.cells #[Value.int .i64 x.kind, Value.int .i64 x.ts, Value.int .i64 x.beta, Value.slice a3 n3 c3] 50)).cell? ⟨wr.heap.size, 1, none⟩ = some (.int .i64 x.ts) := by simp [go_sem]
        have q2 : (wr.alloc (Obj.cells #[Value.int .i64 x.kind, Value.int .i64 x.ts, Value.int .i64 x.beta, Value.slice a3 n3 c3] 50)).cell? ⟨wr.heap.size, 2, none⟩ = some (.int .i64 x.beta) := by simp [go_sem]
        have q3 : (wr.alloc (Obj.cells #[Value.int .i64 x.kind, Value.int .i64 x.ts, Value.int .i64 x.beta, Value.slice a3 n3 c3] 50)).cell? ⟨wr.heap.size, 3, none⟩ = some (.slice a3 n3 c3) := by simp [go_sem]
        replace k0 := MX.cellAt k0
        replace k1 := MX.cellAt k1
        replace j0 := MX.cellAt j0
        have MR := hM'.trans MX
        have NR := hM.trans MX
        have h3 := r3.mk MX (Nat.le_trans hB' hM'.size) (.inr (Nat.le_refl _))
        cases hP : pOk n0 zl n1 (ps.getD k default)
        · have HE := Lib.hid (allN_stop (p := wpI n0 zl n1 ps) (n := n) (show wpI n0 zl n1 ps k = false by unfold wpI; rw [hP]; rfl) hlt)
          have HP := Lib.hid (HV.out.trans hP)
          clear hP
          go_wp2_with fail
          refine wp_region_wk (fun w' => Mk0 (wr.alloc (Obj.cells #[Value.int .i64 x.kind, Value.int .i64 x.ts, Value.int .i64 x.beta, Value.slice a3 n3 c3] 50)) w' ∧ w'.cell? ⟨w.heap.size, 0, none⟩ = some (.slice a0 n0 c0) ∧ w'.cell? ⟨w.heap.size, 1, none⟩ = some (.slice a1 n1 c1) ∧ w'.cell? ⟨w.heap.size + 1, 0, none⟩ = some (.slice (some ⟨b, off, none⟩) n c) ∧ w'.cell? ⟨wr.heap.size, 0, none⟩ = some (.int .i64 x.kind) ∧ w'.cell? ⟨wr.heap.size, 1, none⟩ = some (.int .i64 x.ts) ∧ w'.cell? ⟨wr.heap.size, 2, none⟩ = some (.int .i64 x.beta) ∧ w'.cell? ⟨wr.heap.size, 3, none⟩ = some (.slice a3 n3 c3)) (by kernel_rfl) (by kernel_rfl) (⟨Mk.drew1 _, k0, k1, j0, q0, q1, q2, q3⟩) ?_
          change Wk _ _ _ _ 19 0 _
          first | (refine Wk.skip (m := 18) (k := 0) rfl (by rfl) ?_) | (refine Wk.step (m := 18) (k := 0) (v := _) rfl (by rfl) (fun wv hS => by obtain ⟨s0, s1, s2, s3, s4, s5, s6, s7⟩ := hS; go_simp; try with_reducible rfl) ?_)
          try simp only [Act.put, List.getElem_toArray, List.getElem_cons_zero, List.setIfInBounds_toArray, List.set_cons_zero, List.set_cons_succ]
          first | (refine Wk.skip (m := 17) (k := 1) rfl (by rfl) ?_) | (refine Wk.step (m := 17) (k := 1) (v := _) rfl (by rfl) (fun wv hS => by obtain ⟨s0, s1, s2, s3, s4, s5, s6, s7⟩ := hS; go_simp; try with_reducible rfl) ?_)
          try simp only [Act.put, List.getElem_toArray, List.getElem_cons_succ, List.getElem_cons_zero, List.setIfInBounds_toArray, List.set_cons_zero, List.set_cons_succ]
          refine Wk.call (m := 16) (k := 2) (v := .bool false) _ _ rfl (by rfl) (fun wv hS => by obtain ⟨s0, s1, s2, s3, s4, s5, s6, s7⟩ := hS; go_simp; first | done | exact ⟨rfl, rfl⟩ | with_reducible rfl) (fun wv hS => ?_) ?_; · obtain ⟨s0, s1, s2, s3, s4, s5, s6, s7⟩ := hS; refine (implVPt a0 a1 n0 c0 n1 c1 B zl x.kind x.ts x.beta a3 n3 c3 B' x.hops wv (hl.mk (MR.trans s0) hB (.inr (Nat.le_refl _))) (Nat.le_trans hB (MR.trans s0).size) hn0 hn1 (h3.mk s0 (Nat.le_trans hB' MR.size) (.inr (Nat.le_refl _))) (Nat.le_trans hB' (MR.trans s0).size) hs3).mono ?_; rintro e w' ⟨he, mm⟩; exact ⟨by rw [he, HP.out], ⟨s0.trans mm, mm.cellAt s1, mm.cellAt s2, mm.cellAt s3, mm.cellAt s4, mm.cellAt s5, mm.cellAt s6, mm.cellAt s7⟩⟩
          try simp only [Act.put, List.getElem_toArray, List.getElem_cons_succ, List.getElem_cons_zero, List.setIfInBounds_toArray, List.set_cons_zero, List.set_cons_succ]
          first | (refine Wk.skip (m := 15) (k := 3) rfl (by rfl) ?_) | (refine Wk.step (m := 15) (k := 3) (v := _) rfl (by rfl) (fun wv hS => by obtain ⟨s0, s1, s2, s3, s4, s5, s6, s7⟩ := hS; go_simp; try with_reducible rfl) ?_)
          try simp only [Act.put, List.getElem_toArray, List.getElem_cons_succ, List.getElem_cons_zero, List.setIfInBounds_toArray, List.set_cons_zero, List.set_cons_succ]
          first | (refine Wk.skip (m := 14) (k := 4) rfl (by rfl) ?_) | (refine Wk.step (m := 14) (k := 4) (v := _) rfl (by rfl) (fun wv hS => by obtain ⟨s0, s1, s2, s3, s4, s5, s6, s7⟩ := hS; go_simp; try with_reducible rfl) ?_)
          try simp only [Act.put, List.getElem_toArray, List.getElem_cons_succ, List.getElem_cons_zero, List.setIfInBounds_toArray, List.set_cons_zero, List.set_cons_succ]
          first | (refine Wk.skip (m := 13) (k := 5) rfl (by rfl) ?_) | (refine Wk.step (m := 13) (k := 5) (v := _) rfl (by rfl) (fun wv hS => by obtain ⟨s0, s1, s2, s3, s4, s5, s6, s7⟩ := hS; go_simp; try with_reducible rfl) ?_)
          try simp only [Act.put, List.getElem_toArray, List.getElem_cons_succ, List.getElem_cons_zero, List.setIfInBounds_toArray, List.set_cons_zero, List.set_cons_succ]
          first | (refine Wk.skip (m := 12) (k := 6) rfl (by rfl) ?_) | (refine Wk.step (m := 12) (k := 6) (v := _) rfl (by rfl) (fun wv hS => by obtain ⟨s0, s1, s2, s3, s4, s5, s6, s7⟩ := hS; go_simp; try with_reducible rfl) ?_)
          try simp only [Act.put, List.getElem_toArray, List.getElem_cons_succ, List.getElem_cons_zero, List.setIfInBounds_toArray, List.set_cons_zero, List.set_cons_succ]
          first | (refine Wk.skip (m := 11) (k := 7) rfl (by rfl) ?_) | (refine Wk.step (m := 11) (k := 7) (v := _) rfl (by rfl) (fun wv hS => by obtain ⟨s0, s1, s2, s3, s4, s5, s6, s7⟩ := hS; go_simp; try with_reducible rfl) ?_)
          try simp only [Act.put, List.getElem_toArray, List.getElem_cons_succ, List.getElem_cons_zero, List.setIfInBounds_toArray, List.set_cons_zero, List.set_cons_succ]
          first | (refine Wk.skip (m := 10) (k := 8) rfl (by rfl) ?_) | (refine Wk.step (m := 10) (k := 8) (v := _) rfl (by rfl) (fun wv hS => by obtain ⟨s0, s1, s2, s3, s4, s5, s6, s7⟩ := hS; go_simp; try with_reducible rfl) ?_)
          try simp only [Act.put, List.getElem_toArray, List.getElem_cons_succ, List.getElem_cons_zero, List.setIfInBounds_toArray, List.set_cons_zero, List.set_cons_succ]
          first | (refine Wk.skip (m := 9) (k := 9) rfl (by rfl) ?_) | (refine Wk.step (m := 9) (k := 9) (v := _) rfl (by rfl) (fun wv hS => by obtain ⟨s0, s1, s2, s3, s4, s5, s6, s7⟩ := hS; go_simp; try with_reducible rfl) ?_)
          try simp only [Act.put, List.getElem_toArray, List.getElem_cons_succ, List.getElem_cons_zero, List.setIfInBounds_toArray, List.set_cons_zero, List.set_cons_succ]
          first | (refine Wk.skip (m := 8) (k := 10) rfl (by rfl) ?_) | (refine Wk.step (m := 8) (k := 10) (v := _) rfl (by rfl) (fun wv hS => by obtain ⟨s0, s1, s2, s3, s4, s5, s6, s7⟩ := hS; go_simp; try with_reducible rfl) ?_)
          try simp only [Act.put, List.getElem_toArray, List.getElem_cons_succ, List.getElem_cons_zero, List.setIfInBounds_toArray, List.set_cons_zero, List.set_cons_succ]
          first | (refine Wk.skip (m := 7) (k := 11) rfl (by rfl) ?_) | (refine Wk.step (m := 7) (k := 11) (v := _) rfl (by rfl) (fun wv hS => by obtain ⟨s0, s1, s2, s3, s4, s5, s6, s7⟩ := hS; go_simp; try with_reducible rfl) ?_)
          try simp only [Act.put, List.getElem_toArray, List.getElem_cons_succ, List.getElem_cons_zero, List.setIfInBounds_toArray, List.set_cons_zero, List.set_cons_succ]
          first | (refine Wk.skip (m := 6) (k := 12) rfl (by rfl) ?_) | (refine Wk.step (m := 6) (k := 12) (v := _) rfl (by rfl) (fun wv hS => by obtain ⟨s0, s1, s2, s3, s4, s5, s6, s7⟩ := hS; go_simp; try with_reducible rfl) ?_)
          try simp only [Act.put, List.getElem_toArray, List.getElem_cons_succ, List.getElem_cons_zero, List.setIfInBounds_toArray, List.set_cons_zero, List.set_cons_succ]
          first | (refine Wk.skip (m := 5) (k := 13) rfl (by rfl) ?_) | (refine Wk.step (m := 5) (k := 13) (v := _) rfl (by rfl) (fun wv hS => by obtain ⟨s0, s1, s2, s3, s4, s5, s6, s7⟩ := hS; go_simp; try with_reducible rfl) ?_)
          try simp only [Act.put, List.getElem_toArray, List.getElem_cons_succ, List.getElem_cons_zero, List.setIfInBounds_toArray, List.set_cons_zero, List.set_cons_succ]
          first | (refine Wk.skip (m := 4) (k := 14) rfl (by rfl) ?_) | (refine Wk.step (m := 4) (k := 14) (v := _) rfl (by rfl) (fun wv hS => by obtain ⟨s0, s1, s2, s3, s4, s5, s6, s7⟩ := hS; go_simp; try with_reducible rfl) ?_)
          try simp only [Act.put, List.getElem_toArray, List.getElem_cons_succ, List.getElem_cons_zero, List.setIfInBounds_toArray, List.set_cons_zero, List.set_cons_succ]
          refine Wk.skip (m := 3) (k := 15) rfl (by rfl) ?_
          try simp only [Act.put, List.getElem_toArray, List.getElem_cons_succ, List.getElem_cons_zero, List.setIfInBounds_toArray, List.set_cons_zero, List.set_cons_succ]
          first | (refine Wk.skip (m := 2) (k := 16) rfl (by rfl) ?_) | (refine Wk.step (m := 2) (k := 16) (v := _) rfl (by rfl) (fun wv hS => by obtain ⟨s0, s1, s2, s3, s4, s5, s6, s7⟩ := hS; go_simp; try with_reducible rfl) ?_)
          try simp only [Act.put, List.getElem_toArray, List.getElem_cons_succ, List.getElem_cons_zero, List.setIfInBounds_toArray, List.set_cons_zero, List.set_cons_succ]
          first | (refine Wk.skip (m := 1) (k := 17) rfl (by rfl) ?_) | (refine Wk.step (m := 1) (k := 17) (v := _) rfl (by rfl) (fun wv hS => by obtain ⟨s0, s1, s2, s3, s4, s5, s6, s7⟩ := hS; go_simp; try with_reducible rfl) ?_)
          try simp only [Act.put, List.getElem_toArray, List.getElem_cons_succ, List.getElem_cons_zero, List.setIfInBounds_toArray, List.set_cons_zero, List.set_cons_succ]
          first | (refine Wk.skip (m := 0) (k := 18) rfl (by rfl) ?_) | (refine Wk.step (m := 0) (k := 18) (v := _) rfl (by rfl) (fun wv hS => by obtain ⟨s0, s1, s2, s3, s4, s5, s6, s7⟩ := hS; go_simp; try with_reducible rfl) ?_)
          try simp only [Act.put, List.getElem_toArray, List.getElem_cons_succ, List.getElem_cons_zero, List.setIfInBounds_toArray, List.set_cons_zero, List.set_cons_succ]
          refine Wk.done fun wE hE => ?_
          clear k0 k1 j0 q0 q1 q2 q3
          obtain ⟨mE, k0, k1, j0, q0, q1, q2, q3⟩ := hE
          go_wp2_with fail
          go_ret
          exact ⟨retB (by rw [HR.out, HE.out]), (MR.trans mE)⟩
        · have hxi := pOk_in hP
          rw [← hx.out] at hxi
          have HXI := Lib.hid hxi
          clear hxi
          have HPn := Lib.hid hP
          have HP := Lib.hid (HV.out.trans hP)
          clear hP
          rcases Nat.eq_zero_or_pos k with hk0 | hk0
          · have hk1 : decide ((0 : Int) < (k : Int)) = false := decide_eq_false (by omega)
            have hk1n : decide (0 < k) = false := decide_eq_false (by omega)
            have hkb : (k == 0) = true := by simp [hk0]
            have HE := Lib.hid (allN_go hS.out (show wpI n0 zl n1 ps k = true by unfold wpI; rw [HPn.out, hkb]; rfl))
            clear hk0 hkb
            go_wp2_with fail
            refine wp_region_wk (fun w' => Mk0 (wr.alloc (Obj.cells #[Value.int .i64 x.kind, Value.int .i64 x.ts, Value.int .i64 x.beta, Value.slice a3 n3 c3] 50)) w' ∧ w'.cell? ⟨w.heap.size, 0, none⟩ = some (.slice a0 n0 c0) ∧ w'.cell? ⟨w.heap.size, 1, none⟩ = some (.slice a1 n1 c1) ∧ w'.cell? ⟨w.heap.size + 1, 0, none⟩ = some (.slice (some ⟨b, off, none⟩) n c) ∧ w'.cell? ⟨wr.heap.size, 0, none⟩ = some (.int .i64 x.kind) ∧ w'.cell? ⟨wr.heap.size, 1, none⟩ = some (.int .i64 x.ts) ∧ w'.cell? ⟨wr.heap.size, 2, none⟩ = some (.int .i64 x.beta) ∧ w'.cell? ⟨wr.heap.size, 3, none⟩ = some (.slice a3 n3 c3)) (by kernel_rfl) (by kernel_rfl) (⟨Mk.drew1 _, k0, k1, j0, q0, q1, q2, q3⟩) ?_
            change Wk _ _ _ _ 19 0 _
            first | (refine Wk.skip (m := 18) (k := 0) rfl (by rfl) ?_) | (refine Wk.step (m := 18) (k := 0) (v := _) rfl (by rfl) (fun wv hS => by obtain ⟨s0, s1, s2, s3, s4, s5, s6, s7⟩ := hS; go_simp; try with_reducible rfl) ?_)
            try simp only [Act.put, List.getElem_toArray, List.getElem_cons_zero, List.setIfInBounds_toArray, List.set_cons_zero, List.set_cons_succ]
            first | (refine Wk.skip (m := 17) (k := 1) rfl (by rfl) ?_) | (refine Wk.step (m := 17) (k := 1) (v := _) rfl (by rfl) (fun wv hS => by obtain ⟨s0, s1, s2, s3, s4, s5, s6, s7⟩ := hS; go_simp; try with_reducible rfl) ?_)
            try simp only [Act.put, List.getElem_toArray, List.getElem_cons_succ, List.getElem_cons_zero, List.setIfInBounds_toArray, List.set_cons_zero, List.set_cons_succ]
            refine Wk.call (m := 16) (k := 2) (v := .bool true) _ _ rfl (by rfl) (fun wv hS => by obtain ⟨s0, s1, s2, s3, s4, s5, s6, s7⟩ := hS; go_simp; first | done | exact ⟨rfl, rfl⟩ | with_reducible rfl) (fun wv hS => ?_) ?_; · obtain ⟨s0, s1, s2, s3, s4, s5, s6, s7⟩ := hS; refine (implVPt a0 a1 n0 c0 n1 c1 B zl x.kind x.ts x.beta a3 n3 c3 B' x.hops wv (hl.mk (MR.trans s0) hB (.inr (Nat.le_refl _))) (Nat.le_trans hB (MR.trans s0).size) hn0 hn1 (h3.mk s0 (Nat.le_trans hB' MR.size) (.inr (Nat.le_refl _))) (Nat.le_trans hB' (MR.trans s0).size) hs3).mono ?_; rintro e w' ⟨he, mm⟩; exact ⟨by rw [he, HP.out], ⟨s0.trans mm, mm.cellAt s1, mm.cellAt s2, mm.cellAt s3, mm.cellAt s4, mm.cellAt s5, mm.cellAt s6, mm.cellAt s7⟩⟩
            try simp only [Act.put, List.getElem_toArray, List.getElem_cons_succ, List.getElem_cons_zero, List.setIfInBounds_toArray, List.set_cons_zero, List.set_cons_succ]
            first | (refine Wk.skip (m := 15) (k := 3) rfl (by rfl) ?_) | (refine Wk.step (m := 15) (k := 3) (v := _) rfl (by rfl) (fun wv hS => by obtain ⟨s0, s1, s2, s3, s4, s5, s6, s7⟩ := hS; go_simp; try with_reducible rfl) ?_)
            try simp only [Act.put, List.getElem_toArray, List.getElem_cons_succ, List.getElem_cons_zero, List.setIfInBounds_toArray, List.set_cons_zero, List.set_cons_succ]
            first | (refine Wk.skip (m := 14) (k := 4) rfl (by rfl) ?_) | (refine Wk.step (m := 14) (k := 4) (v := _) rfl (by rfl) (fun wv hS => by obtain ⟨s0, s1, s2, s3, s4, s5, s6, s7⟩ := hS; go_simp; try with_reducible rfl) ?_)
            try simp only [Act.put, List.getElem_toArray, List.getElem_cons_succ, List.getElem_cons_zero, List.setIfInBounds_toArray, List.set_cons_zero, List.set_cons_succ]
            first | (refine Wk.skip (m := 13) (k := 5) rfl (by rfl) ?_) | (refine Wk.step (m := 13) (k := 5) (v := _) rfl (by rfl) (fun wv hS => by obtain ⟨s0, s1, s2, s3, s4, s5, s6, s7⟩ := hS; go_simp; try with_reducible rfl) ?_)
            try simp only [Act.put, List.getElem_toArray, List.getElem_cons_succ, List.getElem_cons_zero, List.setIfInBounds_toArray, List.set_cons_zero, List.set_cons_succ]
            first | (refine Wk.skip (m := 12) (k := 6) rfl (by rfl) ?_) | (refine Wk.step (m := 12) (k := 6) (v := _) rfl (by rfl) (fun wv hS => by obtain ⟨s0, s1, s2, s3, s4, s5, s6, s7⟩ := hS; go_simp; try with_reducible rfl) ?_)
            try simp only [Act.put, List.getElem_toArray, List.getElem_cons_succ, List.getElem_cons_zero, List.setIfInBounds_toArray, List.set_cons_zero, List.set_cons_succ]
            first | (refine Wk.skip (m := 11) (k := 7) rfl (by rfl) ?_) | (refine Wk.step (m := 11) (k := 7) (v := _) rfl (by rfl) (fun wv hS => by obtain ⟨s0, s1, s2, s3, s4, s5, s6, s7⟩ := hS; go_simp; try with_reducible rfl) ?_)
            try simp only [Act.put, List.getElem_toArray, List.getElem_cons_succ, List.getElem_cons_zero, List.setIfInBounds_toArray, List.set_cons_zero, List.set_cons_succ]
            first | (refine Wk.skip (m := 10) (k := 8) rfl (by rfl) ?_) | (refine Wk.step (m := 10) (k := 8) (v := _) rfl (by rfl) (fun wv hS => by obtain ⟨s0, s1, s2, s3, s4, s5, s6, s7⟩ := hS; go_simp; try with_reducible rfl) ?_)
            try simp only [Act.put, List.getElem_toArray, List.getElem_cons_succ, List.getElem_cons_zero, List.setIfInBounds_toArray, List.set_cons_zero, List.set_cons_succ]
            first | (refine Wk.skip (m := 9) (k := 9) rfl (by rfl) ?_) | (refine Wk.step (m := 9) (k := 9) (v := _) rfl (by rfl) (fun wv hS => by obtain ⟨s0, s1, s2, s3, s4, s5, s6, s7⟩ := hS; go_simp; try with_reducible rfl) ?_)
            try simp only [Act.put, List.getElem_toArray, List.getElem_cons_succ, List.getElem_cons_zero, List.setIfInBounds_toArray, List.set_cons_zero, List.set_cons_succ]
            first | (refine Wk.skip (m := 8) (k := 10) rfl (by rfl) ?_) | (refine Wk.step (m := 8) (k := 10) (v := _) rfl (by rfl) (fun wv hS => by obtain ⟨s0, s1, s2, s3, s4, s5, s6, s7⟩ := hS; go_simp; try with_reducible rfl) ?_)
            try simp only [Act.put, List.getElem_toArray, List.getElem_cons_succ, List.getElem_cons_zero, List.setIfInBounds_toArray, List.set_cons_zero, List.set_cons_succ]
            first | (refine Wk.skip (m := 7) (k := 11) rfl (by rfl) ?_) | (refine Wk.step (m := 7) (k := 11) (v := _) rfl (by rfl) (fun wv hS => by obtain ⟨s0, s1, s2, s3, s4, s5, s6, s7⟩ := hS; go_simp; try with_reducible rfl) ?_)
            try simp only [Act.put, List.getElem_toArray, List.getElem_cons_succ, List.getElem_cons_zero, List.setIfInBounds_toArray, List.set_cons_zero, List.set_cons_succ]
            first | (refine Wk.skip (m := 6) (k := 12) rfl (by rfl) ?_) | (refine Wk.step (m := 6) (k := 12) (v := _) rfl (by rfl) (fun wv hS => by obtain ⟨s0, s1, s2, s3, s4, s5, s6, s7⟩ := hS; go_simp; try with_reducible rfl) ?_)
            try simp only [Act.put, List.getElem_toArray, List.getElem_cons_succ, List.getElem_cons_zero, List.setIfInBounds_toArray, List.set_cons_zero, List.set_cons_succ]
            first | (refine Wk.skip (m := 5) (k := 13) rfl (by rfl) ?_) | (refine Wk.step (m := 5) (k := 13) (v := _) rfl (by rfl) (fun wv hS => by obtain ⟨s0, s1, s2, s3, s4, s5, s6, s7⟩ := hS; go_simp; try with_reducible rfl) ?_)
            try simp only [Act.put, List.getElem_toArray, List.getElem_cons_succ, List.getElem_cons_zero, List.setIfInBounds_toArray, List.set_cons_zero, List.set_cons_succ]
            first | (refine Wk.skip (m := 4) (k := 14) rfl (by rfl) ?_) | (refine Wk.step (m := 4) (k := 14) (v := _) rfl (by rfl) (fun wv hS => by obtain ⟨s0, s1, s2, s3, s4, s5, s6, s7⟩ := hS; go_simp; try with_reducible rfl) ?_)
            try simp only [Act.put, List.getElem_toArray, List.getElem_cons_succ, List.getElem_cons_zero, List.setIfInBounds_toArray, List.set_cons_zero, List.set_cons_succ]
            refine Wk.skip (m := 3) (k := 15) rfl (by rfl) ?_
            try simp only [Act.put, List.getElem_toArray, List.getElem_cons_succ, List.getElem_cons_zero, List.setIfInBounds_toArray, List.set_cons_zero, List.set_cons_succ]
            first | (refine Wk.skip (m := 2) (k := 16) rfl (by rfl) ?_) | (refine Wk.step (m := 2) (k := 16) (v := _) rfl (by rfl) (fun wv hS => by obtain ⟨s0, s1, s2, s3, s4, s5, s6, s7⟩ := hS; go_simp; try with_reducible rfl) ?_)
            try simp only [Act.put, List.getElem_toArray, List.getElem_cons_succ, List.getElem_cons_zero, List.setIfInBounds_toArray, List.set_cons_zero, List.set_cons_succ]
            first | (refine Wk.skip (m := 1) (k := 17) rfl (by rfl) ?_) | (refine Wk.step (m := 1) (k := 17) (v := _) rfl (by rfl) (fun wv hS => by obtain ⟨s0, s1, s2, s3, s4, s5, s6, s7⟩ := hS; go_simp; try with_reducible rfl) ?_)
            try simp only [Act.put, List.getElem_toArray, List.getElem_cons_succ, List.getElem_cons_zero, List.setIfInBounds_toArray, List.set_cons_zero, List.set_cons_succ]
            first | (refine Wk.skip (m := 0) (k := 18) rfl (by rfl) ?_) | (refine Wk.step (m := 0) (k := 18) (v := _) rfl (by rfl) (fun wv hS => by obtain ⟨s0, s1, s2, s3, s4, s5, s6, s7⟩ := hS; go_simp; try with_reducible rfl) ?_)
            try simp only [Act.put, List.getElem_toArray, List.getElem_cons_succ, List.getElem_cons_zero, List.setIfInBounds_toArray, List.set_cons_zero, List.set_cons_succ]
            refine Wk.done fun wE hE => ?_
            clear k0 k1 j0 q0 q1 q2 q3
            obtain ⟨mE, k0, k1, j0, q0, q1, q2, q3⟩ := hE
            go_wp2_with fail
            go_roundw
            case rel => exact ⟨rfl, k + 1, by omega, by go_num, HE.out, (NR.trans mE)⟩
            case measure => simp [intOf]; omega
          · obtain ⟨q, hq⟩ : ∃ q, Hid (k = q + 1) := ⟨k - 1, by show k = k - 1 + 1; omega⟩
            have hqn : q < n := by have := hq.out; omega
            have HQ := Lib.hid (show k - 1 = q by have := hq.out; omega)
            obtain ⟨b2, off2, y, eb2, hb3, hy, a4, n4, c4, f0, f1, f2, f3, r4, t4, t4', z4⟩ := HasPathPart.at _ _ _ _ _ _ (h.mk MR hB' (.inr (Nat.le_refl _))) hqn
            simp only [Option.some.injEq, Addr.mk.injEq, and_true] at eb2
            obtain ⟨rfl, rfl⟩ := eb2
            have hs4 : n4 ≤ 1048576 := by have HS := szPathPart_at ps hqn; rw [← hy.out] at HS; unfold sePathPart at HS; have := r4.1; omega
            have HL4 := Lib.hid r4.1
            have i4 : (0 : Int) ≤ (q : Int) := by omega
            have i5 : (q : Int) < (n : Int) := by omega
            have hw3 : IntKind.i64.wrap ((k : Int) - 1) = (q : Int) := by rw [IntKind.wrap_i64]; have := hq.out; omega
            have hyi := pOk_in (wpI_ok hS.out (show q < k by have := hq.out; omega))
            rw [← hy.out] at hyi
            have HYI := Lib.hid hyi
            clear hyi
            have hk1 : decide ((0 : Int) < (k : Int)) = true := decide_eq_true (by omega)
            have hk1n : decide (0 < k) = true := decide_eq_true (by omega)
            have hkb : (k == 0) = false := by simp; omega
            have HYX := Lib.hid (show folP (ps.getD (k - 1) default) (ps.getD k default) = folP y x by rw [HQ.out, ← hy.out, ← hx.out])
            cases hF : folP y x
            · have HE := Lib.hid (allN_stop (p := wpI n0 zl n1 ps) (n := n) (show wpI n0 zl n1 ps k = false by unfold wpI; rw [HPn.out, hkb, HYX.out, hF]; rfl) hlt)
              have HF := Lib.hid (show folP (⟨y.kind, y.ts, y.beta, y.hops⟩ : TPathPart) ⟨x.kind, x.ts, x.beta, x.hops⟩ = false from hF)
              clear hF hkb
              go_wp2_with fail
              refine wp_region_wk (fun w' => Mk0 (wr.alloc (Obj.cells #[Value.int .i64 x.kind, Value.int .i64 x.ts, Value.int .i64 x.beta, Value.slice a3 n3 c3] 50)) w' ∧ w'.cell? ⟨w.heap.size, 0, none⟩ = some (.slice a0 n0 c0) ∧ w'.cell? ⟨w.heap.size, 1, none⟩ = some (.slice a1 n1 c1) ∧ w'.cell? ⟨w.heap.size + 1, 0, none⟩ = some (.slice (some ⟨b, off, none⟩) n c) ∧ w'.cell? ⟨wr.heap.size, 0, none⟩ = some (.int .i64 x.kind) ∧ w'.cell? ⟨wr.heap.size, 1, none⟩ = some (.int .i64 x.ts) ∧ w'.cell? ⟨wr.heap.size, 2, none⟩ = some (.int .i64 x.beta) ∧ w'.cell? ⟨wr.heap.size, 3, none⟩ = some (.slice a3 n3 c3) ∧ w'.cell? ⟨b, off + q * 4, none⟩ = some (.int .i64 y.kind) ∧ w'.cell? ⟨b, off + q * 4 + 1, none⟩ = some (.int .i64 y.ts) ∧ w'.cell? ⟨b, off + q * 4 + 2, none⟩ = some (.int .i64 y.beta) ∧ w'.cell? ⟨b, off + q * 4 + 3, none⟩ = some (.slice a4 n4 c4)) (by kernel_rfl) (by kernel_rfl) (⟨Mk.drew1 _, k0, k1, j0, q0, q1, q2, q3, f0, f1, f2, f3⟩) ?_
              change Wk _ _ _ _ 19 0 _
              first | (refine Wk.skip (m := 18) (k := 0) rfl (by rfl) ?_) | (refine Wk.step (m := 18) (k := 0) (v := _) rfl (by rfl) (fun wv hS => by obtain ⟨s0, s1, s2, s3, s4, s5, s6, s7, s8, s9, s10, s11⟩ := hS; go_simp; try with_reducible rfl) ?_)
              try simp only [Act.put, List.getElem_toArray, List.getElem_cons_zero, List.setIfInBounds_toArray, List.set_cons_zero, List.set_cons_succ]
              first | (refine Wk.skip (m := 17) (k := 1) rfl (by rfl) ?_) | (refine Wk.step (m := 17) (k := 1) (v := _) rfl (by rfl) (fun wv hS => by obtain ⟨s0, s1, s2, s3, s4, s5, s6, s7, s8, s9, s10, s11⟩ := hS; go_simp; try with_reducible rfl) ?_)
              try simp only [Act.put, List.getElem_toArray, List.getElem_cons_succ, List.getElem_cons_zero, List.setIfInBounds_toArray, List.set_cons_zero, List.set_cons_succ]
              refine Wk.call (m := 16) (k := 2) (v := .bool true) _ _ rfl (by rfl) (fun wv hS => by obtain ⟨s0, s1, s2, s3, s4, s5, s6, s7, s8, s9, s10, s11⟩ := hS; go_simp; first | done | exact ⟨rfl, rfl⟩ | with_reducible rfl) (fun wv hS => ?_) ?_; · obtain ⟨s0, s1, s2, s3, s4, s5, s6, s7, s8, s9, s10, s11⟩ := hS; refine (implVPt a0 a1 n0 c0 n1 c1 B zl x.kind x.ts x.beta a3 n3 c3 B' x.hops wv (hl.mk (MR.trans s0) hB (.inr (Nat.le_refl _))) (Nat.le_trans hB (MR.trans s0).size) hn0 hn1 (h3.mk s0 (Nat.le_trans hB' MR.size) (.inr (Nat.le_refl _))) (Nat.le_trans hB' (MR.trans s0).size) hs3).mono ?_; rintro e w' ⟨he, mm⟩; exact ⟨by rw [he, HP.out], ⟨s0.trans mm, mm.cellAt s1, mm.cellAt s2, mm.cellAt s3, mm.cellAt s4, mm.cellAt s5, mm.cellAt s6, mm.cellAt s7, mm.cellAt s8, mm.cellAt s9, mm.cellAt s10, mm.cellAt s11⟩⟩
              try simp only [Act.put, List.getElem_toArray, List.getElem_cons_succ, List.getElem_cons_zero, List.setIfInBounds_toArray, List.set_cons_zero, List.set_cons_succ]
              first | (refine Wk.skip (m := 15) (k := 3) rfl (by rfl) ?_) | (refine Wk.step (m := 15) (k := 3) (v := _) rfl (by rfl) (fun wv hS => by obtain ⟨s0, s1, s2, s3, s4, s5, s6, s7, s8, s9, s10, s11⟩ := hS; go_simp; try with_reducible rfl) ?_)
              try simp only [Act.put, List.getElem_toArray, List.getElem_cons_succ, List.getElem_cons_zero, List.setIfInBounds_toArray, List.set_cons_zero, List.set_cons_succ]
              first | (refine Wk.skip (m := 14) (k := 4) rfl (by rfl) ?_) | (refine Wk.step (m := 14) (k := 4) (v := _) rfl (by rfl) (fun wv hS => by obtain ⟨s0, s1, s2, s3, s4, s5, s6, s7, s8, s9, s10, s11⟩ := hS; go_simp; try with_reducible rfl) ?_)
              try simp only [Act.put, List.getElem_toArray, List.getElem_cons_succ, List.getElem_cons_zero, List.setIfInBounds_toArray, List.set_cons_zero, List.set_cons_succ]
              first | (refine Wk.skip (m := 13) (k := 5) rfl (by rfl) ?_) | (refine Wk.step (m := 13) (k := 5) (v := _) rfl (by rfl) (fun wv hS => by obtain ⟨s0, s1, s2, s3, s4, s5, s6, s7, s8, s9, s10, s11⟩ := hS; go_simp; try with_reducible rfl) ?_)
              try simp only [Act.put, List.getElem_toArray, List.getElem_cons_succ, List.getElem_cons_zero, List.setIfInBounds_toArray, List.set_cons_zero, List.set_cons_succ]
              first | (refine Wk.skip (m := 12) (k := 6) rfl (by rfl) ?_) | (refine Wk.step (m := 12) (k := 6) (v := _) rfl (by rfl) (fun wv hS => by obtain ⟨s0, s1, s2, s3, s4, s5, s6, s7, s8, s9, s10, s11⟩ := hS; go_simp; try with_reducible rfl) ?_)
              try simp only [Act.put, List.getElem_toArray, List.getElem_cons_succ, List.getElem_cons_zero, List.setIfInBounds_toArray, List.set_cons_zero, List.set_cons_succ]
              first | (refine Wk.skip (m := 11) (k := 7) rfl (by rfl) ?_) | (refine Wk.step (m := 11) (k := 7) (v := _) rfl (by rfl) (fun wv hS => by obtain ⟨s0, s1, s2, s3, s4, s5, s6, s7, s8, s9, s10, s11⟩ := hS; go_simp; try with_reducible rfl) ?_)
              try simp only [Act.put, List.getElem_toArray, List.getElem_cons_succ, List.getElem_cons_zero, List.setIfInBounds_toArray, List.set_cons_zero, List.set_cons_succ]
              first | (refine Wk.skip (m := 10) (k := 8) rfl (by rfl) ?_) | (refine Wk.step (m := 10) (k := 8) (v := _) rfl (by rfl) (fun wv hS => by obtain ⟨s0, s1, s2, s3, s4, s5, s6, s7, s8, s9, s10, s11⟩ := hS; go_simp; try with_reducible rfl) ?_)
              try simp only [Act.put, List.getElem_toArray, List.getElem_cons_succ, List.getElem_cons_zero, List.setIfInBounds_toArray, List.set_cons_zero, List.set_cons_succ]
              first | (refine Wk.skip (m := 9) (k := 9) rfl (by rfl) ?_) | (refine Wk.step (m := 9) (k := 9) (v := _) rfl (by rfl) (fun wv hS => by obtain ⟨s0, s1, s2, s3, s4, s5, s6, s7, s8, s9, s10, s11⟩ := hS; go_simp; try with_reducible rfl) ?_)
              try simp only [Act.put, List.getElem_toArray, List.getElem_cons_succ, List.getElem_cons_zero, List.setIfInBounds_toArray, List.set_cons_zero, List.set_cons_succ]
              first | (refine Wk.skip (m := 8) (k := 10) rfl (by rfl) ?_) | (refine Wk.step (m := 8) (k := 10) (v := _) rfl (by rfl) (fun wv hS => by obtain ⟨s0, s1, s2, s3, s4, s5, s6, s7, s8, s9, s10, s11⟩ := hS; go_simp; try with_reducible rfl) ?_)
              try simp only [Act.put, List.getElem_toArray, List.getElem_cons_succ, List.getElem_cons_zero, List.setIfInBounds_toArray, List.set_cons_zero, List.set_cons_succ]
              first | (refine Wk.skip (m := 7) (k := 11) rfl (by rfl) ?_) | (refine Wk.step (m := 7) (k := 11) (v := _) rfl (by rfl) (fun wv hS => by obtain ⟨s0, s1, s2, s3, s4, s5, s6, s7, s8, s9, s10, s11⟩ := hS; go_simp; try with_reducible rfl) ?_)
              try simp only [Act.put, List.getElem_toArray, List.getElem_cons_succ, List.getElem_cons_zero, List.setIfInBounds_toArray, List.set_cons_zero, List.set_cons_succ]
              first | (refine Wk.skip (m := 6) (k := 12) rfl (by rfl) ?_) | (refine Wk.step (m := 6) (k := 12) (v := _) rfl (by rfl) (fun wv hS => by obtain ⟨s0, s1, s2, s3, s4, s5, s6, s7, s8, s9, s10, s11⟩ := hS; go_simp; try with_reducible rfl) ?_)
              try simp only [Act.put, List.getElem_toArray, List.getElem_cons_succ, List.getElem_cons_zero, List.setIfInBounds_toArray, List.set_cons_zero, List.set_cons_succ]
              first | (refine Wk.skip (m := 5) (k := 13) rfl (by rfl) ?_) | (refine Wk.step (m := 5) (k := 13) (v := _) rfl (by rfl) (fun wv hS => by obtain ⟨s0, s1, s2, s3, s4, s5, s6, s7, s8, s9, s10, s11⟩ := hS; go_simp; try with_reducible rfl) ?_)
              try simp only [Act.put, List.getElem_toArray, List.getElem_cons_succ, List.getElem_cons_zero, List.setIfInBounds_toArray, List.set_cons_zero, List.set_cons_succ]
              first | (refine Wk.skip (m := 4) (k := 14) rfl (by rfl) ?_) | (refine Wk.step (m := 4) (k := 14) (v := _) rfl (by rfl) (fun wv hS => by obtain ⟨s0, s1, s2, s3, s4, s5, s6, s7, s8, s9, s10, s11⟩ := hS; go_simp; try with_reducible rfl) ?_)
              try simp only [Act.put, List.getElem_toArray, List.getElem_cons_succ, List.getElem_cons_zero, List.setIfInBounds_toArray, List.set_cons_zero, List.set_cons_succ]
              refine Wk.call (m := 3) (k := 15) (v := .bool false) _ _ rfl (by rfl) (fun wv hS => by obtain ⟨s0, s1, s2, s3, s4, s5, s6, s7, s8, s9, s10, s11⟩ := hS; go_simp; first | done | exact ⟨rfl, rfl⟩ | with_reducible rfl) (fun wv hS => ?_) ?_; · obtain ⟨s0, s1, s2, s3, s4, s5, s6, s7, s8, s9, s10, s11⟩ := hS; refine (implMay y.kind x.kind y.ts y.beta a4 n4 c4 B' y.hops x.ts x.beta a3 n3 c3 B' x.hops wv (r4.mk s0 (Nat.le_trans hB' MR.size) (.inr (Nat.le_refl _))) (Nat.le_trans hB' (MR.trans s0).size) hs4 (h3.mk s0 (Nat.le_trans hB' MR.size) (.inr (Nat.le_refl _))) (Nat.le_trans hB' (MR.trans s0).size) hs3 HYI.out.1 HXI.out.1).mono ?_; rintro e w' ⟨he, mm⟩; exact ⟨by rw [he, HF.out], ⟨s0.trans mm, mm.cellAt s1, mm.cellAt s2, mm.cellAt s3, mm.cellAt s4, mm.cellAt s5, mm.cellAt s6, mm.cellAt s7, mm.cellAt s8, mm.cellAt s9, mm.cellAt s10, mm.cellAt s11⟩⟩
              try simp only [Act.put, List.getElem_toArray, List.getElem_cons_succ, List.getElem_cons_zero, List.setIfInBounds_toArray, List.set_cons_zero, List.set_cons_succ]
              first | (refine Wk.skip (m := 2) (k := 16) rfl (by rfl) ?_) | (refine Wk.step (m := 2) (k := 16) (v := _) rfl (by rfl) (fun wv hS => by obtain ⟨s0, s1, s2, s3, s4, s5, s6, s7, s8, s9, s10, s11⟩ := hS; go_simp; try with_reducible rfl) ?_)
              try simp only [Act.put, List.getElem_toArray, List.getElem_cons_succ, List.getElem_cons_zero, List.setIfInBounds_toArray, List.set_cons_zero, List.set_cons_succ]
              first | (refine Wk.skip (m := 1) (k := 17) rfl (by rfl) ?_) | (refine Wk.step (m := 1) (k := 17) (v := _) rfl (by rfl) (fun wv hS => by obtain ⟨s0, s1, s2, s3, s4, s5, s6, s7, s8, s9, s10, s11⟩ := hS; go_simp; try with_reducible rfl) ?_)
              try simp only [Act.put, List.getElem_toArray, List.getElem_cons_succ, List.getElem_cons_zero, List.setIfInBounds_toArray, List.set_cons_zero, List.set_cons_succ]
              first | (refine Wk.skip (m := 0) (k := 18) rfl (by rfl) ?_) | (refine Wk.step (m := 0) (k := 18) (v := _) rfl (by rfl) (fun wv hS => by obtain ⟨s0, s1, s2, s3, s4, s5, s6, s7, s8, s9, s10, s11⟩ := hS; go_simp; try with_reducible rfl) ?_)
              try simp only [Act.put, List.getElem_toArray, List.getElem_cons_succ, List.getElem_cons_zero, List.setIfInBounds_toArray, List.set_cons_zero, List.set_cons_succ]
              refine Wk.done fun wE hE => ?_
              clear k0 k1 j0 q0 q1 q2 q3 f0 f1 f2 f3
              obtain ⟨mE, k0, k1, j0, q0, q1, q2, q3, f0, f1, f2, f3⟩ := hE
              go_wp2_with fail
              go_ret
              exact ⟨retB (by rw [HR.out, HE.out]), (MR.trans mE)⟩
            · have HE := Lib.hid (allN_go hS.out (show wpI n0 zl n1 ps k = true by unfold wpI; rw [HPn.out, hkb, HYX.out, hF]; rfl))
              have HF := Lib.hid (show folP (⟨y.kind, y.ts, y.beta, y.hops⟩ : TPathPart) ⟨x.kind, x.ts, x.beta, x.hops⟩ = true from hF)
              clear hF hkb
              go_wp2_with fail
              refine wp_region_wk (fun w' => Mk0 (wr.alloc (Obj.cells #[Value.int .i64 x.kind, Value.int .i64 x.ts, Value.int .i64 x.beta, Value.slice a3 n3 c3] 50)) w' ∧ w'.cell? ⟨w.heap.size, 0, none⟩ = some (.slice a0 n0 c0) ∧ w'.cell? ⟨w.heap.size, 1, none⟩ = some (.slice a1 n1 c1) ∧ w'.cell? ⟨w.heap.size + 1, 0, none⟩ = some (.slice (some ⟨b, off, none⟩) n c) ∧ w'.cell? ⟨wr.heap.size, 0, none⟩ = some (.int .i64 x.kind) ∧ w'.cell? ⟨wr.heap.size, 1, none⟩ = some (.int .i64 x.ts) ∧ w'.cell? ⟨wr.heap.size, 2, none⟩ = some (.int .i64 x.beta) ∧ w'.cell? ⟨wr.heap.size, 3, none⟩ = some (.slice a3 n3 c3) ∧ w'.cell? ⟨b, off + q * 4, none⟩ = some (.int .i64 y.kind) ∧ w'.cell? ⟨b, off + q * 4 + 1, none⟩ = some (.int .i64 y.ts) ∧ w'.cell? ⟨b, off + q * 4 + 2, none⟩ = some (.int .i64 y.beta) ∧ w'.cell? ⟨b, off + q * 4 + 3, none⟩ = some (.slice a4 n4 c4)) (by kernel_rfl) (by kernel_rfl) (⟨Mk.drew1 _, k0, k1, j0, q0, q1, q2, q3, f0, f1, f2, f3⟩) ?_
              change Wk _ _ _ _ 19 0 _
              first | (refine Wk.skip (m := 18) (k := 0) rfl (by rfl) ?_) | (refine Wk.step (m := 18) (k := 0) (v := _) rfl (by rfl) (fun wv hS => by obtain ⟨s0, s1, s2, s3, s4, s5, s6, s7, s8, s9, s10, s11⟩ := hS; go_simp; try with_reducible rfl) ?_)
              try simp only [Act.put, List.getElem_toArray, List.getElem_cons_zero, List.setIfInBounds_toArray, List.set_cons_zero, List.set_cons_succ]
              first | (refine Wk.skip (m := 17) (k := 1) rfl (by rfl) ?_) | (refine Wk.step (m := 17) (k := 1) (v := _) rfl (by rfl) (fun wv hS => by obtain ⟨s0, s1, s2, s3, s4, s5, s6, s7, s8, s9, s10, s11⟩ := hS; go_simp; try with_reducible rfl) ?_)
              try simp only [Act.put, List.getElem_toArray, List.getElem_cons_succ, List.getElem_cons_zero, List.setIfInBounds_toArray, List.set_cons_zero, List.set_cons_succ]
              refine Wk.call (m := 16) (k := 2) (v := .bool true) _ _ rfl (by rfl) (fun wv hS => by obtain ⟨s0, s1, s2, s3, s4, s5, s6, s7, s8, s9, s10, s11⟩ := hS; go_simp; first | done | exact ⟨rfl, rfl⟩ | with_reducible rfl) (fun wv hS => ?_) ?_; · obtain ⟨s0, s1, s2, s3, s4, s5, s6, s7, s8, s9, s10, s11⟩ := hS; refine (implVPt a0 a1 n0 c0 n1 c1 B zl x.kind x.ts x.beta a3 n3 c3 B' x.hops wv (hl.mk (MR.trans s0) hB (.inr (Nat.le_refl _))) (Nat.le_trans hB (MR.trans s0).size) hn0 hn1 (h3.mk s0 (Nat.le_trans hB' MR.size) (.inr (Nat.le_refl _))) (Nat.le_trans hB' (MR.trans s0).size) hs3).mono ?_; rintro e w' ⟨he, mm⟩; exact ⟨by rw [he, HP.out], ⟨s0.trans mm, mm.cellAt s1, mm.cellAt s2, mm.cellAt s3, mm.cellAt s4, mm.cellAt s5, mm.cellAt s6, mm.cellAt s7, mm.cellAt s8, mm.cellAt s9, mm.cellAt s10, mm.cellAt s11⟩⟩
              try simp only [Act.put, List.getElem_toArray, List.getElem_cons_succ, List.getElem_cons_zero, List.setIfInBounds_toArray, List.set_cons_zero, List.set_cons_succ]
              first | (refine Wk.skip (m := 15) (k := 3) rfl (by rfl) ?_) | (refine Wk.step (m := 15) (k := 3) (v := _) rfl (by rfl) (fun wv hS => by obtain ⟨s0, s1, s2, s3, s4, s5, s6, s7, s8, s9, s10, s11⟩ := hS; go_simp; try with_reducible rfl) ?_)
              try simp only [Act.put, List.getElem_toArray, List.getElem_cons_succ, List.getElem_cons_zero, List.setIfInBounds_toArray, List.set_cons_zero, List.set_cons_succ]
              first | (refine Wk.skip (m := 14) (k := 4) rfl (by rfl) ?_) | (refine Wk.step (m := 14) (k := 4) (v := _) rfl (by rfl) (fun wv hS => by obtain ⟨s0, s1, s2, s3, s4, s5, s6, s7, s8, s9, s10, s11⟩ := hS; go_simp; try with_reducible rfl) ?_)
              try simp only [Act.put, List.getElem_toArray, List.getElem_cons_succ, List.getElem_cons_zero, List.setIfInBounds_toArray, List.set_cons_zero, List.set_cons_succ]
              first | (refine Wk.skip (m := 13) (k := 5) rfl (by rfl) ?_) | (refine Wk.step (m := 13) (k := 5) (v := _) rfl (by rfl) (fun wv hS => by obtain ⟨s0, s1, s2, s3, s4, s5, s6, s7, s8, s9, s10, s11⟩ := hS; go_simp; try with_reducible rfl) ?_)
              try simp only [Act.put, List.getElem_toArray, List.getElem_cons_succ, List.getElem_cons_zero, List.setIfInBounds_toArray, List.set_cons_zero, List.set_cons_succ]
              first | (refine Wk.skip (m := 12) (k := 6) rfl (by rfl) ?_) | (refine Wk.step (m := 12) (k := 6) (v := _) rfl (by rfl) (fun wv hS => by obtain ⟨s0, s1, s2, s3, s4, s5, s6, s7, s8, s9, s10, s11⟩ := hS; go_simp; try with_reducible rfl) ?_)
              try simp only [Act.put, List.getElem_toArray, List.getElem_cons_succ, List.getElem_cons_zero, List.setIfInBounds_toArray, List.set_cons_zero, List.set_cons_succ]
              first | (refine Wk.skip (m := 11) (k := 7) rfl (by rfl) ?_) | (refine Wk.step (m := 11) (k := 7) (v := _) rfl (by rfl) (fun wv hS => by obtain ⟨s0, s1, s2, s3, s4, s5, s6, s7, s8, s9, s10, s11⟩ := hS; go_simp; try with_reducible rfl) ?_)
              try simp only [Act.put, List.getElem_toArray, List.getElem_cons_succ, List.getElem_cons_zero, List.setIfInBounds_toArray, List.set_cons_zero, List.set_cons_succ]
              first | (refine Wk.skip (m := 10) (k := 8) rfl (by rfl) ?_) | (refine Wk.step (m := 10) (k := 8) (v := _) rfl (by rfl) (fun wv hS => by obtain ⟨s0, s1, s2, s3, s4, s5, s6, s7, s8, s9, s10, s11⟩ := hS; go_simp; try with_reducible rfl) ?_)
              try simp only [Act.put, List.getElem_toArray, List.getElem_cons_succ, List.getElem_cons_zero, List.setIfInBounds_toArray, List.set_cons_zero, List.set_cons_succ]
              first | (refine Wk.skip (m := 9) (k := 9) rfl (by rfl) ?_) | (refine Wk.step (m := 9) (k := 9) (v := _) rfl (by rfl) (fun wv hS => by obtain ⟨s0, s1, s2, s3, s4, s5, s6, s7, s8, s9, s10, s11⟩ := hS; go_simp; try with_reducible rfl) ?_)
              try simp only [Act.put, List.getElem_toArray, List.getElem_cons_succ, List.getElem_cons_zero, List.setIfInBounds_toArray, List.set_cons_zero, List.set_cons_succ]
              first | (refine Wk.skip (m := 8) (k := 10) rfl (by rfl) ?_) | (refine Wk.step (m := 8) (k := 10) (v := _) rfl (by rfl) (fun wv hS => by obtain ⟨s0, s1, s2, s3, s4, s5, s6, s7, s8, s9, s10, s11⟩ := hS; go_simp; try with_reducible rfl) ?_)
              try simp only [Act.put, List.getElem_toArray, List.getElem_cons_succ, List.getElem_cons_zero, List.setIfInBounds_toArray, List.set_cons_zero, List.set_cons_succ]
              first | (refine Wk.skip (m := 7) (k := 11) rfl (by rfl) ?_) | (refine Wk.step (m := 7) (k := 11) (v := _) rfl (by rfl) (fun wv hS => by obtain ⟨s0, s1, s2, s3, s4, s5, s6, s7, s8, s9, s10, s11⟩ := hS; go_simp; try with_reducible rfl) ?_)
              try simp only [Act.put, List.getElem_toArray, List.getElem_cons_succ, List.getElem_cons_zero, List.setIfInBounds_toArray, List.set_cons_zero, List.set_cons_succ]
              first | (refine Wk.skip (m := 6) (k := 12) rfl (by rfl) ?_) | (refine Wk.step (m := 6) (k := 12) (v := _) rfl (by rfl) (fun wv hS => by obtain ⟨s0, s1, s2, s3, s4, s5, s6, s7, s8, s9, s10, s11⟩ := hS; go_simp; try with_reducible rfl) ?_)
              try simp only [Act.put, List.getElem_toArray, List.getElem_cons_succ, List.getElem_cons_zero, List.setIfInBounds_toArray, List.set_cons_zero, List.set_cons_succ]
              first | (refine Wk.skip (m := 5) (k := 13) rfl (by rfl) ?_) | (refine Wk.step (m := 5) (k := 13) (v := _) rfl (by rfl) (fun wv hS => by obtain ⟨s0, s1, s2, s3, s4, s5, s6, s7, s8, s9, s10, s11⟩ := hS; go_simp; try with_reducible rfl) ?_)
              try simp only [Act.put, List.getElem_toArray, List.getElem_cons_succ, List.getElem_cons_zero, List.setIfInBounds_toArray, List.set_cons_zero, List.set_cons_succ]
              first | (refine Wk.skip (m := 4) (k := 14) rfl (by rfl) ?_) | (refine Wk.step (m := 4) (k := 14) (v := _) rfl (by rfl) (fun wv hS => by obtain ⟨s0, s1, s2, s3, s4, s5, s6, s7, s8, s9, s10, s11⟩ := hS; go_simp; try with_reducible rfl) ?_)
              try simp only [Act.put, List.getElem_toArray, List.getElem_cons_succ, List.getElem_cons_zero, List.setIfInBounds_toArray, List.set_cons_zero, List.set_cons_succ]
              refine Wk.call (m := 3) (k := 15) (v := .bool true) _ _ rfl (by rfl) (fun wv hS => by obtain ⟨s0, s1, s2, s3, s4, s5, s6, s7, s8, s9, s10, s11⟩ := hS; go_simp; first | done | exact ⟨rfl, rfl⟩ | with_reducible rfl) (fun wv hS => ?_) ?_; · obtain ⟨s0, s1, s2, s3, s4, s5, s6, s7, s8, s9, s10, s11⟩ := hS; refine (implMay y.kind x.kind y.ts y.beta a4 n4 c4 B' y.hops x.ts x.beta a3 n3 c3 B' x.hops wv (r4.mk s0 (Nat.le_trans hB' MR.size) (.inr (Nat.le_refl _))) (Nat.le_trans hB' (MR.trans s0).size) hs4 (h3.mk s0 (Nat.le_trans hB' MR.size) (.inr (Nat.le_refl _))) (Nat.le_trans hB' (MR.trans s0).size) hs3 HYI.out.1 HXI.out.1).mono ?_; rintro e w' ⟨he, mm⟩; exact ⟨by rw [he, HF.out], ⟨s0.trans mm, mm.cellAt s1, mm.cellAt s2, mm.cellAt s3, mm.cellAt s4, mm.cellAt s5, mm.cellAt s6, mm.cellAt s7, mm.cellAt s8, mm.cellAt s9, mm.cellAt s10, mm.cellAt s11⟩⟩
              try simp only [Act.put, List.getElem_toArray, List.getElem_cons_succ, List.getElem_cons_zero, List.setIfInBounds_toArray, List.set_cons_zero, List.set_cons_succ]
              first | (refine Wk.skip (m := 2) (k := 16) rfl (by rfl) ?_) | (refine Wk.step (m := 2) (k := 16) (v := _) rfl (by rfl) (fun wv hS => by obtain ⟨s0, s1, s2, s3, s4, s5, s6, s7, s8, s9, s10, s11⟩ := hS; go_simp; try with_reducible rfl) ?_)
              try simp only [Act.put, List.getElem_toArray, List.getElem_cons_succ, List.getElem_cons_zero, List.setIfInBounds_toArray, List.set_cons_zero, List.set_cons_succ]
              first | (refine Wk.skip (m := 1) (k := 17) rfl (by rfl) ?_) | (refine Wk.step (m := 1) (k := 17) (v := _) rfl (by rfl) (fun wv hS => by obtain ⟨s0, s1, s2, s3, s4, s5, s6, s7, s8, s9, s10, s11⟩ := hS; go_simp; try with_reducible rfl) ?_)
              try simp only [Act.put, List.getElem_toArray, List.getElem_cons_succ, List.getElem_cons_zero, List.setIfInBounds_toArray, List.set_cons_zero, List.set_cons_succ]
              first | (refine Wk.skip (m := 0) (k := 18) rfl (by rfl) ?_) | (refine Wk.step (m := 0) (k := 18) (v := _) rfl (by rfl) (fun wv hS => by obtain ⟨s0, s1, s2, s3, s4, s5, s6, s7, s8, s9, s10, s11⟩ := hS; go_simp; try with_reducible rfl) ?_)
              try simp only [Act.put, List.getElem_toArray, List.getElem_cons_succ, List.getElem_cons_zero, List.setIfInBounds_toArray, List.set_cons_zero, List.set_cons_succ]
              refine Wk.done fun wE hE => ?_
              clear k0 k1 j0 q0 q1 q2 q3 f0 f1 f2 f3
              obtain ⟨mE, k0, k1, j0, q0, q1, q2, q3, f0, f1, f2, f3⟩ := hE
              go_wp2_with fail
              go_roundw
              case rel => exact ⟨rfl, k + 1, by omega, by go_num, HE.out, (NR.trans mE)⟩
              case measure => simp [intOf]; omega
      · obtain rfl : k = n := by omega
        go_wp2_with fail
        go_ret
        exact ⟨retB (by rw [HR.out, hS.out]), hM'⟩

end Go.Proofs.YtifhhfndoifbhaaGreat
namespace Go.Proofs.YtifhhfndoifbhaaGreat
open Go.ChangeShapes Go.WideShapes Go.ChangeAt Go.RowKit
set_option linter.unusedVariables false
set_option maxRecDepth 100000 in
set_option maxHeartbeats 4000000 in
theorem specWfP (a0 a1 : Option Addr) (n0 c0 n1 c1 B : Nat) (zl : List TLink) (a : Option Addr) (n c B' : Nat) (ps : List TPathPart) (w : World) (hl : HasLink w B a1 n1 zl) (hB : B ≤ w.heap.size) (hn0 : n0 ≤ 1048576) (hn1 : n1 ≤ 1048576) (h : HasPathPart w B' a n ps) (hB' : B' ≤ w.heap.size) (hn : szPathPart ps n ≤ 1048576) :
    Calls Tryz.prog 33 #[.agg #[.slice a0 n0 c0, .slice a1 n1 c1], .agg #[.slice a n c]] w fun e w' => e = .returned (.bool (wpB n0 zl n1 ps n)) ∧ Mk0 w w' := by
  have hnn := szPathPart_n ps n
  have M0 := (Mk.alloc w (Obj.cells #[Value.slice a0 n0 c0, Value.slice a1 n1 c1] 35)).new (Obj.cells #[Value.slice a n c] 39)
  have k0 : ((w.alloc (Obj.cells #[Value.slice a0 n0 c0, Value.slice a1 n1 c1] 35)).alloc (Obj.cells #[Value.slice a n c] 39)).cell? ⟨w.heap.size, 0, none⟩ = some (.slice a0 n0 c0) := by simp [go_sem]
  have k1 : ((w.alloc (Obj.cells #[Value.slice a0 n0 c0, Value.slice a1 n1 c1] 35)).alloc (Obj.cells #[Value.slice a n c] 39)).cell? ⟨w.heap.size, 1, none⟩ = some (.slice a1 n1 c1) := by simp [go_sem]
  have j0 : ((w.alloc (Obj.cells #[Value.slice a0 n0 c0, Value.slice a1 n1 c1] 35)).alloc (Obj.cells #[Value.slice a n c] 39)).cell? ⟨w.heap.size + 1, 0, none⟩ = some (.slice a n c) := by simp [go_sem]
  go_enter Tryz.func33, Tryz.ntmps33
  go_wp2_with fail
  refine (specIn (n : Int) 1 3 _).mono ?_
  rintro e w' ⟨rfl, rfl⟩
  cases g3 : inB (n : Int) 1 3
  · have HR := Lib.hid (show wpB n0 zl n1 ps n = false by unfold wpB; rw [g3]; rfl)
    go_wp2_with fail
    go_ret
    exact ⟨retB HR.out.symm, M0⟩
  · have HR := Lib.hid (show wpB n0 zl n1 ps n = allN (wpI n0 zl n1 ps) n by unfold wpB; rw [g3]; rfl)
    have hn3 : 1 ≤ n ∧ n ≤ 3 := by unfold inB at g3; have := of_decide_eq_true g3; omega
    clear g3
    go_wp2_with fail
    go_loopw [4, 5] (fun r i wr => r = .bool false ∧ ∃ k : Nat, k ≤ n ∧ i = .int .i64 k ∧ Hid (allN (wpI n0 zl n1 ps) k = true) ∧ Mk0 ((w.alloc (Obj.cells #[Value.slice a0 n0 c0, Value.slice a1 n1 c1] 35)).alloc (Obj.cells #[Value.slice a n c] 39)) wr) (fun _ i _ => n - (intOf i).toNat)
    case atStart => exact ⟨rfl, 0, Nat.zero_le _, rfl, rfl, Mk.refl _ _ _⟩
    case round =>
      obtain ⟨rfl, k, hk, rfl, hS, hM⟩ := hrel
      replace k0 := hM.cellAt k0
      replace k1 := hM.cellAt k1
      replace j0 := hM.cellAt j0
      have hM' := M0.trans hM
      by_cases hlt : k < n
      · obtain ⟨b, off, x, eb, hb2, hx, a3, n3, c3, d0, d1, d2, d3, r3, t3, t3', z3⟩ := HasPathPart.at _ _ _ _ _ _ (h.mk hM' hB' (.inr (Nat.le_refl _))) hlt
        subst eb
        have hs3 : n3 ≤ 1048576 := by have HS := szPathPart_at ps hlt; rw [← hx.out] at HS; unfold sePathPart at HS; have := r3.1; omega
        have HL3 := Lib.hid r3.1
        have i1 : (0 : Int) ≤ (k : Int) := by omega
        have i2 : (k : Int) < (n : Int) := by omega
        have HV := Lib.hid (show vpB n0 zl n1 x.kind x.ts x.beta x.hops n3 = pOk n0 zl n1 (ps.getD k default) by rw [← hx.out]; unfold pOk; rw [HL3.out])
        have hbr := World.block_lt_of_cell? _ _ d0
        have hbq := World.block_lt_of_cell? _ _ k0
        have hbj := World.block_lt_of_cell? _ _ j0
        simp only at hbr hbq hbj
        cases hP : pOk n0 zl n1 (ps.getD k default)
        · have HE := Lib.hid (allN_stop (p := wpI n0 zl n1 ps) (n := n) (show wpI n0 zl n1 ps k = false by unfold wpI; rw [hP]; rfl) hlt)
          have HP := Lib.hid (HV.out.trans hP)
          clear hP
          go_wp2_with fail
          refine wp_region_wk (fun w' => Mk0 wr w' ∧ w'.cell? ⟨w.heap.size, 0, none⟩ = some (.slice a0 n0 c0) ∧ w'.cell? ⟨w.heap.size, 1, none⟩ = some (.slice a1 n1 c1) ∧ w'.cell? ⟨w.heap.size + 1, 0, none⟩ = some (.slice (some ⟨b, off, none⟩) n c) ∧ w'.cell? ⟨b, off + k * 4, none⟩ = some (.int .i64 x.kind) ∧ w'.cell? ⟨b, off + k * 4 + 1, none⟩ = some (.int .i64 x.ts) ∧ w'.cell? ⟨b, off + k * 4 + 2, none⟩ = some (.int .i64 x.beta) ∧ w'.cell? ⟨b, off + k * 4 + 3, none⟩ = some (.slice a3 n3 c3)) (by kernel_rfl) (by kernel_rfl) (⟨Mk.drew1 _, k0, k1, j0, d0, d1, d2, d3⟩) ?_
          change Wk _ _ _ _ 8 0 _
          first | (refine Wk.skip (m := 7) (k := 0) rfl (by rfl) ?_) | (refine Wk.step (m := 7) (k := 0) (v := _) rfl (by rfl) (fun wv hS => by obtain ⟨s0, s1, s2, s3, s4, s5, s6, s7⟩ := hS; go_simp; try with_reducible rfl) ?_)
          try simp only [Act.put, List.getElem_toArray, List.getElem_cons_zero, List.setIfInBounds_toArray, List.set_cons_zero, List.set_cons_succ]
          first | (refine Wk.skip (m := 6) (k := 1) rfl (by rfl) ?_) | (refine Wk.step (m := 6) (k := 1) (v := _) rfl (by rfl) (fun wv hS => by obtain ⟨s0, s1, s2, s3, s4, s5, s6, s7⟩ := hS; go_simp; try with_reducible rfl) ?_)
          try simp only [Act.put, List.getElem_toArray, List.getElem_cons_succ, List.getElem_cons_zero, List.setIfInBounds_toArray, List.set_cons_zero, List.set_cons_succ]
          first | (refine Wk.skip (m := 5) (k := 2) rfl (by rfl) ?_) | (refine Wk.step (m := 5) (k := 2) (v := _) rfl (by rfl) (fun wv hS => by obtain ⟨s0, s1, s2, s3, s4, s5, s6, s7⟩ := hS; go_simp; try with_reducible rfl) ?_)
          try simp only [Act.put, List.getElem_toArray, List.getElem_cons_succ, List.getElem_cons_zero, List.setIfInBounds_toArray, List.set_cons_zero, List.set_cons_succ]
          first | (refine Wk.skip (m := 4) (k := 3) rfl (by rfl) ?_) | (refine Wk.step (m := 4) (k := 3) (v := _) rfl (by rfl) (fun wv hS => by obtain ⟨s0, s1, s2, s3, s4, s5, s6, s7⟩ := hS; go_simp; try with_reducible rfl) ?_)
          try simp only [Act.put, List.getElem_toArray, List.getElem_cons_succ, List.getElem_cons_zero, List.setIfInBounds_toArray, List.set_cons_zero, List.set_cons_succ]
          first | (refine Wk.skip (m := 3) (k := 4) rfl (by rfl) ?_) | (refine Wk.step (m := 3) (k := 4) (v := _) rfl (by rfl) (fun wv hS => by obtain ⟨s0, s1, s2, s3, s4, s5, s6, s7⟩ := hS; go_simp; try with_reducible rfl) ?_)
          try simp only [Act.put, List.getElem_toArray, List.getElem_cons_succ, List.getElem_cons_zero, List.setIfInBounds_toArray, List.set_cons_zero, List.set_cons_succ]
          first | (refine Wk.skip (m := 2) (k := 5) rfl (by rfl) ?_) | (refine Wk.step (m := 2) (k := 5) (v := _) rfl (by rfl) (fun wv hS => by obtain ⟨s0, s1, s2, s3, s4, s5, s6, s7⟩ := hS; go_simp; try with_reducible rfl) ?_)
          try simp only [Act.put, List.getElem_toArray, List.getElem_cons_succ, List.getElem_cons_zero, List.setIfInBounds_toArray, List.set_cons_zero, List.set_cons_succ]
          refine Wk.call (m := 1) (k := 6) (v := .bool false) _ _ rfl (by rfl) (fun wv hS => by obtain ⟨s0, s1, s2, s3, s4, s5, s6, s7⟩ := hS; go_simp; first | done | exact ⟨rfl, rfl⟩ | with_reducible rfl) (fun wv hS => ?_) ?_; · obtain ⟨s0, s1, s2, s3, s4, s5, s6, s7⟩ := hS; refine (specVPt a0 a1 n0 c0 n1 c1 B zl x.kind x.ts x.beta a3 n3 c3 B' x.hops wv (hl.mk (hM'.trans s0) hB (.inr (Nat.le_refl _))) (Nat.le_trans hB (hM'.trans s0).size) hn0 hn1 (r3.mk s0 (Nat.le_trans hB' hM'.size) (.inr (Nat.le_refl _))) (Nat.le_trans hB' (hM'.trans s0).size) hs3).mono ?_; rintro e w' ⟨he, mm⟩; exact ⟨by rw [he, HP.out], ⟨s0.trans mm, mm.cellAt s1, mm.cellAt s2, mm.cellAt s3, mm.cellAt s4, mm.cellAt s5, mm.cellAt s6, mm.cellAt s7⟩⟩
          try simp only [Act.put, List.getElem_toArray, List.getElem_cons_succ, List.getElem_cons_zero, List.setIfInBounds_toArray, List.set_cons_zero, List.set_cons_succ]
          first | (refine Wk.skip (m := 0) (k := 7) rfl (by rfl) ?_) | (refine Wk.step (m := 0) (k := 7) (v := _) rfl (by rfl) (fun wv hS => by obtain ⟨s0, s1, s2, s3, s4, s5, s6, s7⟩ := hS; go_simp; try with_reducible rfl) ?_)
          try simp only [Act.put, List.getElem_toArray, List.getElem_cons_succ, List.getElem_cons_zero, List.setIfInBounds_toArray, List.set_cons_zero, List.set_cons_succ]
          refine Wk.done fun wE hE => ?_
          clear k0 k1 j0 d0 d1 d2 d3
          obtain ⟨mE, k0, k1, j0, d0, d1, d2, d3⟩ := hE
          go_wp2_with fail
          go_ret
          exact ⟨retB (by rw [HR.out, HE.out]), (hM'.trans mE)⟩
        · have hxi := pOk_in hP
          rw [← hx.out] at hxi
          have HXI := Lib.hid hxi
          clear hxi
          have HPn := Lib.hid hP
          have HP := Lib.hid (HV.out.trans hP)
          clear hP
          go_wp2_with fail
          refine wp_region_wk (fun w' => Mk0 wr w' ∧ w'.cell? ⟨w.heap.size, 0, none⟩ = some (.slice a0 n0 c0) ∧ w'.cell? ⟨w.heap.size, 1, none⟩ = some (.slice a1 n1 c1) ∧ w'.cell? ⟨w.heap.size + 1, 0, none⟩ = some (.slice (some ⟨b, off, none⟩) n c) ∧ w'.cell? ⟨b, off + k * 4, none⟩ = some (.int .i64 x.kind) ∧ w'.cell? ⟨b, off + k * 4 + 1, none⟩ = some (.int .i64 x.ts) ∧ w'.cell? ⟨b, off + k * 4 + 2, none⟩ = some (.int .i64 x.beta) ∧ w'.cell? ⟨b, off + k * 4 + 3, none⟩ = some (.slice a3 n3 c3)) (by kernel_rfl) (by kernel_rfl) (⟨Mk.drew1 _, k0, k1, j0, d0, d1, d2, d3⟩) ?_
          change Wk _ _ _ _ 8 0 _
          first | (refine Wk.skip (m := 7) (k := 0) rfl (by rfl) ?_) | (refine Wk.step (m := 7) (k := 0) (v := _) rfl (by rfl) (fun wv hS => by obtain ⟨s0, s1, s2, s3, s4, s5, s6, s7⟩ := hS; go_simp; try with_reducible rfl) ?_)
          try simp only [Act.put, List.getElem_toArray, List.getElem_cons_zero, List.setIfInBounds_toArray, List.set_cons_zero, List.set_cons_succ]
          first | (refine Wk.skip (m := 6) (k := 1) rfl (by rfl) ?_) | (refine Wk.step (m := 6) (k := 1) (v := _) rfl (by rfl) (fun wv hS => by obtain ⟨s0, s1, s2, s3, s4, s5, s6, s7⟩ := hS; go_simp; try with_reducible rfl) ?_)
          try simp only [Act.put, List.getElem_toArray, List.getElem_cons_succ, List.getElem_cons_zero, List.setIfInBounds_toArray, List.set_cons_zero, List.set_cons_succ]
          first | (refine Wk.skip (m := 5) (k := 2) rfl (by rfl) ?_) | (refine Wk.step (m := 5) (k := 2) (v := _) rfl (by rfl) (fun wv hS => by obtain ⟨s0, s1, s2, s3, s4, s5, s6, s7⟩ := hS; go_simp; try with_reducible rfl) ?_)
          try simp only [Act.put, List.getElem_toArray, List.getElem_cons_succ, List.getElem_cons_zero, List.setIfInBounds_toArray, List.set_cons_zero, List.set_cons_succ]
          first | (refine Wk.skip (m := 4) (k := 3) rfl (by rfl) ?_) | (refine Wk.step (m := 4) (k := 3) (v := _) rfl (by rfl) (fun wv hS => by obtain ⟨s0, s1, s2, s3, s4, s5, s6, s7⟩ := hS; go_simp; try with_reducible rfl) ?_)
          try simp only [Act.put, List.getElem_toArray, List.getElem_cons_succ, List.getElem_cons_zero, List.setIfInBounds_toArray, List.set_cons_zero, List.set_cons_succ]
          first | (refine Wk.skip (m := 3) (k := 4) rfl (by rfl) ?_) | (refine Wk.step (m := 3) (k := 4) (v := _) rfl (by rfl) (fun wv hS => by obtain ⟨s0, s1, s2, s3, s4, s5, s6, s7⟩ := hS; go_simp; try with_reducible rfl) ?_)
          try simp only [Act.put, List.getElem_toArray, List.getElem_cons_succ, List.getElem_cons_zero, List.setIfInBounds_toArray, List.set_cons_zero, List.set_cons_succ]
          first | (refine Wk.skip (m := 2) (k := 5) rfl (by rfl) ?_) | (refine Wk.step (m := 2) (k := 5) (v := _) rfl (by rfl) (fun wv hS => by obtain ⟨s0, s1, s2, s3, s4, s5, s6, s7⟩ := hS; go_simp; try with_reducible rfl) ?_)
          try simp only [Act.put, List.getElem_toArray, List.getElem_cons_succ, List.getElem_cons_zero, List.setIfInBounds_toArray, List.set_cons_zero, List.set_cons_succ]
          refine Wk.call (m := 1) (k := 6) (v := .bool true) _ _ rfl (by rfl) (fun wv hS => by obtain ⟨s0, s1, s2, s3, s4, s5, s6, s7⟩ := hS; go_simp; first | done | exact ⟨rfl, rfl⟩ | with_reducible rfl) (fun wv hS => ?_) ?_; · obtain ⟨s0, s1, s2, s3, s4, s5, s6, s7⟩ := hS; refine (specVPt a0 a1 n0 c0 n1 c1 B zl x.kind x.ts x.beta a3 n3 c3 B' x.hops wv (hl.mk (hM'.trans s0) hB (.inr (Nat.le_refl _))) (Nat.le_trans hB (hM'.trans s0).size) hn0 hn1 (r3.mk s0 (Nat.le_trans hB' hM'.size) (.inr (Nat.le_refl _))) (Nat.le_trans hB' (hM'.trans s0).size) hs3).mono ?_; rintro e w' ⟨he, mm⟩; exact ⟨by rw [he, HP.out], ⟨s0.trans mm, mm.cellAt s1, mm.cellAt s2, mm.cellAt s3, mm.cellAt s4, mm.cellAt s5, mm.cellAt s6, mm.cellAt s7⟩⟩
          try simp only [Act.put, List.getElem_toArray, List.getElem_cons_succ, List.getElem_cons_zero, List.setIfInBounds_toArray, List.set_cons_zero, List.set_cons_succ]
          first | (refine Wk.skip (m := 0) (k := 7) rfl (by rfl) ?_) | (refine Wk.step (m := 0) (k := 7) (v := _) rfl (by rfl) (fun wv hS => by obtain ⟨s0, s1, s2, s3, s4, s5, s6, s7⟩ := hS; go_simp; try with_reducible rfl) ?_)
          try simp only [Act.put, List.getElem_toArray, List.getElem_cons_succ, List.getElem_cons_zero, List.setIfInBounds_toArray, List.set_cons_zero, List.set_cons_succ]
          refine Wk.done fun wE hE => ?_
          clear k0 k1 j0 d0 d1 d2 d3
          obtain ⟨mE, k0, k1, j0, d0, d1, d2, d3⟩ := hE
          have MR := hM'.trans mE
          have NR := hM.trans mE
          rcases Nat.eq_zero_or_pos k with hk0 | hk0
          · have hk1 : decide ((0 : Int) < (k : Int)) = false := decide_eq_false (by omega)
            have hk1n : decide (0 < k) = false := decide_eq_false (by omega)
            have hkb : (k == 0) = true := by simp [hk0]
            have HE := Lib.hid (allN_go hS.out (show wpI n0 zl n1 ps k = true by unfold wpI; rw [HPn.out, hkb]; rfl))
            clear hk0 hkb
            go_wp2_with fail
            go_roundw
            case rel => exact ⟨rfl, k + 1, by omega, by go_num, HE.out, NR⟩
            case measure => simp [intOf]; omega
          · obtain ⟨q, hq⟩ : ∃ q, Hid (k = q + 1) := ⟨k - 1, by show k = k - 1 + 1; omega⟩
            have hqn : q < n := by have := hq.out; omega
            have HQ := Lib.hid (show k - 1 = q by have := hq.out; omega)
            obtain ⟨b2, off2, y, eb2, hb3, hy, a4, n4, c4, f0, f1, f2, f3, r4, t4, t4', z4⟩ := HasPathPart.at _ _ _ _ _ _ (h.mk MR hB' (.inr (Nat.le_refl _))) hqn
            simp only [Option.some.injEq, Addr.mk.injEq, and_true] at eb2
            obtain ⟨rfl, rfl⟩ := eb2
            have hs4 : n4 ≤ 1048576 := by have HS := szPathPart_at ps hqn; rw [← hy.out] at HS; unfold sePathPart at HS; have := r4.1; omega
            have HL4 := Lib.hid r4.1
            have i4 : (0 : Int) ≤ (q : Int) := by omega
            have i5 : (q : Int) < (n : Int) := by omega
            have hw3 : IntKind.i64.wrap ((k : Int) - 1) = (q : Int) := by rw [IntKind.wrap_i64]; have := hq.out; omega
            have hyi := pOk_in (wpI_ok hS.out (show q < k by have := hq.out; omega))
            rw [← hy.out] at hyi
            have h3l := r3.1
            have h4l := r4.1
            have hn4 : 1 ≤ n4 := by omega
            have hn3' : 1 ≤ n3 := by have := HXI.out; omega
            obtain ⟨m, hm⟩ : ∃ m, Hid (n4 = m + 1) := ⟨n4 - 1, by show n4 = n4 - 1 + 1; omega⟩
            obtain ⟨b5, o5, u, eu, hb5, hu, u0, u1, u2, u3, u4⟩ := HasHop.at _ _ _ _ _ _ r4 (show m < n4 by have := hm.out; omega)
            subst eu
            obtain ⟨b6, o6, v, ev, hb6, hv, v0, v1, v2, v3, v4⟩ := HasHop.at _ _ _ _ _ _ (r3.mk mE (Nat.le_trans hB' hM'.size) (.inr (Nat.le_refl _))) (show 0 < n3 by omega)
            subst ev
            rw [Nat.zero_mul, Nat.add_zero] at v0
            have HMN := Lib.hid (meet_nd (x := y) (y := x) (m := m) (q := n3 - 1) (by rw [h4l]; exact hm.out) (by omega))
            rw [← hu.out, ← hv.out] at HMN
            clear hyi h3l h4l u1 u2 u3 u4 v1 v2 v3 v4
            have i6 : (0 : Int) ≤ (m : Int) := by omega
            have i7 : (m : Int) < (n4 : Int) := by have := hm.out; omega
            have i8 : (0 : Int) < (n3 : Int) := by omega
            have i8n : 0 < n3 := by omega
            have hw4 : IntKind.i64.wrap ((n4 : Int) - 1) = (m : Int) := by rw [IntKind.wrap_i64]; have := hm.out; omega
            have hk1 : decide ((0 : Int) < (k : Int)) = true := decide_eq_true (by omega)
            have hk1n : decide (0 < k) = true := decide_eq_true (by omega)
            have hkb : (k == 0) = false := by simp; omega
            have HYX := Lib.hid (show folP (ps.getD (k - 1) default) (ps.getD k default) = (decide (rkP y.kind < rkP x.kind) && (u.nd == v.nd)) by rw [HQ.out, ← hy.out, ← hx.out]; unfold folP; rw [HMN.out])
            clear HMN
            go_wp2_with fail
            have MX := Mk.alloc wE (Obj.cells #[Value.int .i64 y.kind, Value.int .i64 y.ts, Value.int .i64 y.beta, Value.slice (some ⟨b5, o5, none⟩) n4 c4] 50)
            have q0 : (wE.alloc (Obj.cells #[Value.int .i64 y.kind, Value.int .i64 y.ts, Value.int .i64 y.beta, Value.slice (some ⟨b5, o5, none⟩) n4 c4] 50)).cell? ⟨wE.heap.size, 0, none⟩ = some (.int .i64 y.kind) := by simp [go_sem]
            have q1 : (wE.alloc (Obj.cells #[Value.int .i64 y.kind, Value.int .i64 y.ts, Value.int .i64 y.beta, Value.slice (some ⟨b5, o5, none⟩) n4 c4] 50)).cell? ⟨wE.heap.size, 1, none⟩ = some (.int .i64 y.ts) := by simp [go_sem]
            have q2 : (wE.alloc (Obj.cells #[Value.int .i64 y.kind, Value.int .i64 y.ts, Value.int .i64 y.beta, Value.slice (some ⟨b5, o5, none⟩) n4 c4] 50)).cell? ⟨wE.heap.size, 2, none⟩ = some (.int .i64 y.beta) := by simp [go_sem]
            have q3 : (wE.alloc (Obj.cells #[Value.int .i64 y.kind, Value.int .i64 y.ts, Value.int .i64 y.beta, Value.slice (some ⟨b5, o5, none⟩) n4 c4] 50)).cell? ⟨wE.heap.size, 3, none⟩ = some (.slice (some ⟨b5, o5, none⟩) n4 c4) := by simp [go_sem]
            replace k0 := MX.cellAt k0
            replace k1 := MX.cellAt k1
            replace j0 := MX.cellAt j0
            replace d0 := MX.cellAt d0
            replace d1 := MX.cellAt d1
            replace d2 := MX.cellAt d2
            replace d3 := MX.cellAt d3
            replace u0 := MX.cellAt u0
            replace v0 := MX.cellAt v0
            have MY := MR.trans MX
            have NY := NR.trans MX
            obtain ⟨Ry, hRy⟩ : ∃ R, Hid (R = rkP y.kind) := ⟨_, Lib.hid rfl⟩
            obtain ⟨Rx, hRx⟩ : ∃ R, Hid (R = rkP x.kind) := ⟨_, Lib.hid rfl⟩
            rw [← hRy.out, ← hRx.out] at HYX
            by_cases hRK : Ry < Rx
            · have d1q : decide (Rx ≤ Ry) = false := decide_eq_false (by omega)
              rw [decide_eq_true hRK] at HYX
              clear hRK
              cases hN : (u.nd == v.nd)
              · have hN' : (u.nd != v.nd) = true := by simp only [bne, hN]; rfl
                have HE := Lib.hid (allN_stop (p := wpI n0 zl n1 ps) (n := n) (show wpI n0 zl n1 ps k = false by unfold wpI; rw [HPn.out, hkb, HYX.out, hN]; rfl) hlt)
                clear hN hkb
                refine wp_region_wk (fun w' => Mk0 (wE.alloc (Obj.cells #[Value.int .i64 y.kind, Value.int .i64 y.ts, Value.int .i64 y.beta, Value.slice (some ⟨b5, o5, none⟩) n4 c4] 50)) w' ∧ w'.cell? ⟨w.heap.size, 0, none⟩ = some (.slice a0 n0 c0) ∧ w'.cell? ⟨w.heap.size, 1, none⟩ = some (.slice a1 n1 c1) ∧ w'.cell? ⟨w.heap.size + 1, 0, none⟩ = some (.slice (some ⟨b, off, none⟩) n c) ∧ w'.cell? ⟨b, off + k * 4, none⟩ = some (.int .i64 x.kind) ∧ w'.cell? ⟨b, off + k * 4 + 1, none⟩ = some (.int .i64 x.ts) ∧ w'.cell? ⟨b, off + k * 4 + 2, none⟩ = some (.int .i64 x.beta) ∧ w'.cell? ⟨b, off + k * 4 + 3, none⟩ = some (.slice (some ⟨b6, o6, none⟩) n3 c3) ∧ w'.cell? ⟨wE.heap.size, 0, none⟩ = some (.int .i64 y.kind) ∧ w'.cell? ⟨wE.heap.size, 1, none⟩ = some (.int .i64 y.ts) ∧ w'.cell? ⟨wE.heap.size, 2, none⟩ = some (.int .i64 y.beta) ∧ w'.cell? ⟨wE.heap.size, 3, none⟩ = some (.slice (some ⟨b5, o5, none⟩) n4 c4) ∧ w'.cell? ⟨b5, o5 + m * 5, none⟩ = some (.int .i64 u.nd) ∧ w'.cell? ⟨b6, o6, none⟩ = some (.int .i64 v.nd)) (by kernel_rfl) (by kernel_rfl) (⟨Mk.drew1 _, k0, k1, j0, d0, d1, d2, d3, q0, q1, q2, q3, u0, v0⟩) ?_
                change Wk _ _ _ _ 32 0 _
                first | (refine Wk.skip (m := 31) (k := 0) rfl (by rfl) ?_) | (refine Wk.step (m := 31) (k := 0) (v := _) rfl (by rfl) (fun wv hS => by obtain ⟨s0, s1, s2, s3, s4, s5, s6, s7, s8, s9, s10, s11, s12, s13⟩ := hS; go_simp; try with_reducible rfl) ?_)
                try simp only [Act.put, List.getElem_toArray, List.getElem_cons_zero, List.setIfInBounds_toArray, List.set_cons_zero, List.set_cons_succ]
                first | (refine Wk.skip (m := 30) (k := 1) rfl (by rfl) ?_) | (refine Wk.step (m := 30) (k := 1) (v := _) rfl (by rfl) (fun wv hS => by obtain ⟨s0, s1, s2, s3, s4, s5, s6, s7, s8, s9, s10, s11, s12, s13⟩ := hS; go_simp; try with_reducible rfl) ?_)
                try simp only [Act.put, List.getElem_toArray, List.getElem_cons_succ, List.getElem_cons_zero, List.setIfInBounds_toArray, List.set_cons_zero, List.set_cons_succ]
                refine Wk.call (m := 29) (k := 2) (v := .int .i64 Ry) _ _ rfl (by rfl) (fun wv hS => by obtain ⟨s0, s1, s2, s3, s4, s5, s6, s7, s8, s9, s10, s11, s12, s13⟩ := hS; go_simp; first | done | exact ⟨rfl, rfl⟩ | with_reducible rfl) (fun wv hS => ?_) ?_; · obtain ⟨s0, s1, s2, s3, s4, s5, s6, s7, s8, s9, s10, s11, s12, s13⟩ := hS; refine (specRank y.kind wv).mono ?_; rintro e w' ⟨he, rfl⟩; exact ⟨by rw [he, ← hRy.out], ⟨s0, s1, s2, s3, s4, s5, s6, s7, s8, s9, s10, s11, s12, s13⟩⟩
                try simp only [Act.put, List.getElem_toArray, List.getElem_cons_succ, List.getElem_cons_zero, List.setIfInBounds_toArray, List.set_cons_zero, List.set_cons_succ]
                first | (refine Wk.skip (m := 28) (k := 3) rfl (by rfl) ?_) | (refine Wk.step (m := 28) (k := 3) (v := _) rfl (by rfl) (fun wv hS => by obtain ⟨s0, s1, s2, s3, s4, s5, s6, s7, s8, s9, s10, s11, s12, s13⟩ := hS; go_simp; try with_reducible rfl) ?_)
                try simp only [Act.put, List.getElem_toArray, List.getElem_cons_succ, List.getElem_cons_zero, List.setIfInBounds_toArray, List.set_cons_zero, List.set_cons_succ]
                first | (refine Wk.skip (m := 27) (k := 4) rfl (by rfl) ?_) | (refine Wk.step (m := 27) (k := 4) (v := _) rfl (by rfl) (fun wv hS => by obtain ⟨s0, s1, s2, s3, s4, s5, s6, s7, s8, s9, s10, s11, s12, s13⟩ := hS; go_simp; try with_reducible rfl) ?_)
                try simp only [Act.put, List.getElem_toArray, List.getElem_cons_succ, List.getElem_cons_zero, List.setIfInBounds_toArray, List.set_cons_zero, List.set_cons_succ]
                first | (refine Wk.skip (m := 26) (k := 5) rfl (by rfl) ?_) | (refine Wk.step (m := 26) (k := 5) (v := _) rfl (by rfl) (fun wv hS => by obtain ⟨s0, s1, s2, s3, s4, s5, s6, s7, s8, s9, s10, s11, s12, s13⟩ := hS; go_simp; try with_reducible rfl) ?_)
                try simp only [Act.put, List.getElem_toArray, List.getElem_cons_succ, List.getElem_cons_zero, List.setIfInBounds_toArray, List.set_cons_zero, List.set_cons_succ]
                first | (refine Wk.skip (m := 25) (k := 6) rfl (by rfl) ?_) | (refine Wk.step (m := 25) (k := 6) (v := _) rfl (by rfl) (fun wv hS => by obtain ⟨s0, s1, s2, s3, s4, s5, s6, s7, s8, s9, s10, s11, s12, s13⟩ := hS; go_simp; try with_reducible rfl) ?_)
                try simp only [Act.put, List.getElem_toArray, List.getElem_cons_succ, List.getElem_cons_zero, List.setIfInBounds_toArray, List.set_cons_zero, List.set_cons_succ]
                first | (refine Wk.skip (m := 24) (k := 7) rfl (by rfl) ?_) | (refine Wk.step (m := 24) (k := 7) (v := _) rfl (by rfl) (fun wv hS => by obtain ⟨s0, s1, s2, s3, s4, s5, s6, s7, s8, s9, s10, s11, s12, s13⟩ := hS; go_simp; try with_reducible rfl) ?_)
                try simp only [Act.put, List.getElem_toArray, List.getElem_cons_succ, List.getElem_cons_zero, List.setIfInBounds_toArray, List.set_cons_zero, List.set_cons_succ]
                first | (refine Wk.skip (m := 23) (k := 8) rfl (by rfl) ?_) | (refine Wk.step (m := 23) (k := 8) (v := _) rfl (by rfl) (fun wv hS => by obtain ⟨s0, s1, s2, s3, s4, s5, s6, s7, s8, s9, s10, s11, s12, s13⟩ := hS; go_simp; try with_reducible rfl) ?_)
                try simp only [Act.put, List.getElem_toArray, List.getElem_cons_succ, List.getElem_cons_zero, List.setIfInBounds_toArray, List.set_cons_zero, List.set_cons_succ]
                refine Wk.call (m := 22) (k := 9) (v := .int .i64 Rx) _ _ rfl (by rfl) (fun wv hS => by obtain ⟨s0, s1, s2, s3, s4, s5, s6, s7, s8, s9, s10, s11, s12, s13⟩ := hS; go_simp; first | done | exact ⟨rfl, rfl⟩ | with_reducible rfl) (fun wv hS => ?_) ?_; · obtain ⟨s0, s1, s2, s3, s4, s5, s6, s7, s8, s9, s10, s11, s12, s13⟩ := hS; refine (specRank x.kind wv).mono ?_; rintro e w' ⟨he, rfl⟩; exact ⟨by rw [he, ← hRx.out], ⟨s0, s1, s2, s3, s4, s5, s6, s7, s8, s9, s10, s11, s12, s13⟩⟩
                try simp only [Act.put, List.getElem_toArray, List.getElem_cons_succ, List.getElem_cons_zero, List.setIfInBounds_toArray, List.set_cons_zero, List.set_cons_succ]
                first | (refine Wk.skip (m := 21) (k := 10) rfl (by rfl) ?_) | (refine Wk.step (m := 21) (k := 10) (v := _) rfl (by rfl) (fun wv hS => by obtain ⟨s0, s1, s2, s3, s4, s5, s6, s7, s8, s9, s10, s11, s12, s13⟩ := hS; go_simp; try with_reducible rfl) ?_)
                try simp only [Act.put, List.getElem_toArray, List.getElem_cons_succ, List.getElem_cons_zero, List.setIfInBounds_toArray, List.set_cons_zero, List.set_cons_succ]
                first | (refine Wk.skip (m := 20) (k := 11) rfl (by rfl) ?_) | (refine Wk.step (m := 20) (k := 11) (v := _) rfl (by rfl) (fun wv hS => by obtain ⟨s0, s1, s2, s3, s4, s5, s6, s7, s8, s9, s10, s11, s12, s13⟩ := hS; go_simp; try with_reducible rfl) ?_)
                try simp only [Act.put, List.getElem_toArray, List.getElem_cons_succ, List.getElem_cons_zero, List.setIfInBounds_toArray, List.set_cons_zero, List.set_cons_succ]
                first | (refine Wk.skip (m := 19) (k := 12) rfl (by rfl) ?_) | (refine Wk.step (m := 19) (k := 12) (v := _) rfl (by rfl) (fun wv hS => by obtain ⟨s0, s1, s2, s3, s4, s5, s6, s7, s8, s9, s10, s11, s12, s13⟩ := hS; go_simp; try with_reducible rfl) ?_)
                try simp only [Act.put, List.getElem_toArray, List.getElem_cons_succ, List.getElem_cons_zero, List.setIfInBounds_toArray, List.set_cons_zero, List.set_cons_succ]
                first | (refine Wk.skip (m := 18) (k := 13) rfl (by rfl) ?_) | (refine Wk.step (m := 18) (k := 13) (v := _) rfl (by rfl) (fun wv hS => by obtain ⟨s0, s1, s2, s3, s4, s5, s6, s7, s8, s9, s10, s11, s12, s13⟩ := hS; go_simp; try with_reducible rfl) ?_)
                try simp only [Act.put, List.getElem_toArray, List.getElem_cons_succ, List.getElem_cons_zero, List.setIfInBounds_toArray, List.set_cons_zero, List.set_cons_succ]
                first | (refine Wk.skip (m := 17) (k := 14) rfl (by rfl) ?_) | (refine Wk.step (m := 17) (k := 14) (v := _) rfl (by rfl) (fun wv hS => by obtain ⟨s0, s1, s2, s3, s4, s5, s6, s7, s8, s9, s10, s11, s12, s13⟩ := hS; go_simp; try with_reducible rfl) ?_)
                try simp only [Act.put, List.getElem_toArray, List.getElem_cons_succ, List.getElem_cons_zero, List.setIfInBounds_toArray, List.set_cons_zero, List.set_cons_succ]
                first | (refine Wk.skip (m := 16) (k := 15) rfl (by rfl) ?_) | (refine Wk.step (m := 16) (k := 15) (v := _) rfl (by rfl) (fun wv hS => by obtain ⟨s0, s1, s2, s3, s4, s5, s6, s7, s8, s9, s10, s11, s12, s13⟩ := hS; go_simp; try with_reducible rfl) ?_)
                try simp only [Act.put, List.getElem_toArray, List.getElem_cons_succ, List.getElem_cons_zero, List.setIfInBounds_toArray, List.set_cons_zero, List.set_cons_succ]
                first | (refine Wk.skip (m := 15) (k := 16) rfl (by rfl) ?_) | (refine Wk.step (m := 15) (k := 16) (v := _) rfl (by rfl) (fun wv hS => by obtain ⟨s0, s1, s2, s3, s4, s5, s6, s7, s8, s9, s10, s11, s12, s13⟩ := hS; go_simp; try with_reducible rfl) ?_)
                try simp only [Act.put, List.getElem_toArray, List.getElem_cons_succ, List.getElem_cons_zero, List.setIfInBounds_toArray, List.set_cons_zero, List.set_cons_succ]
                first | (refine Wk.skip (m := 14) (k := 17) rfl (by rfl) ?_) | (refine Wk.step (m := 14) (k := 17) (v := _) rfl (by rfl) (fun wv hS => by obtain ⟨s0, s1, s2, s3, s4, s5, s6, s7, s8, s9, s10, s11, s12, s13⟩ := hS; go_simp; try with_reducible rfl) ?_)
                try simp only [Act.put, List.getElem_toArray, List.getElem_cons_succ, List.getElem_cons_zero, List.setIfInBounds_toArray, List.set_cons_zero, List.set_cons_succ]
                first | (refine Wk.skip (m := 13) (k := 18) rfl (by rfl) ?_) | (refine Wk.step (m := 13) (k := 18) (v := _) rfl (by rfl) (fun wv hS => by obtain ⟨s0, s1, s2, s3, s4, s5, s6, s7, s8, s9, s10, s11, s12, s13⟩ := hS; go_simp; try with_reducible rfl) ?_)
                try simp only [Act.put, List.getElem_toArray, List.getElem_cons_succ, List.getElem_cons_zero, List.setIfInBounds_toArray, List.set_cons_zero, List.set_cons_succ]
                first | (refine Wk.skip (m := 12) (k := 19) rfl (by rfl) ?_) | (refine Wk.step (m := 12) (k := 19) (v := _) rfl (by rfl) (fun wv hS => by obtain ⟨s0, s1, s2, s3, s4, s5, s6, s7, s8, s9, s10, s11, s12, s13⟩ := hS; go_simp; try with_reducible rfl) ?_)
                try simp only [Act.put, List.getElem_toArray, List.getElem_cons_succ, List.getElem_cons_zero, List.setIfInBounds_toArray, List.set_cons_zero, List.set_cons_succ]
                first | (refine Wk.skip (m := 11) (k := 20) rfl (by rfl) ?_) | (refine Wk.step (m := 11) (k := 20) (v := _) rfl (by rfl) (fun wv hS => by obtain ⟨s0, s1, s2, s3, s4, s5, s6, s7, s8, s9, s10, s11, s12, s13⟩ := hS; go_simp; try with_reducible rfl) ?_)
                try simp only [Act.put, List.getElem_toArray, List.getElem_cons_succ, List.getElem_cons_zero, List.setIfInBounds_toArray, List.set_cons_zero, List.set_cons_succ]
                first | (refine Wk.skip (m := 10) (k := 21) rfl (by rfl) ?_) | (refine Wk.step (m := 10) (k := 21) (v := _) rfl (by rfl) (fun wv hS => by obtain ⟨s0, s1, s2, s3, s4, s5, s6, s7, s8, s9, s10, s11, s12, s13⟩ := hS; go_simp; try with_reducible rfl) ?_)
                try simp only [Act.put, List.getElem_toArray, List.getElem_cons_succ, List.getElem_cons_zero, List.setIfInBounds_toArray, List.set_cons_zero, List.set_cons_succ]
                first | (refine Wk.skip (m := 9) (k := 22) rfl (by rfl) ?_) | (refine Wk.step (m := 9) (k := 22) (v := _) rfl (by rfl) (fun wv hS => by obtain ⟨s0, s1, s2, s3, s4, s5, s6, s7, s8, s9, s10, s11, s12, s13⟩ := hS; go_simp; try with_reducible rfl) ?_)
                try simp only [Act.put, List.getElem_toArray, List.getElem_cons_succ, List.getElem_cons_zero, List.setIfInBounds_toArray, List.set_cons_zero, List.set_cons_succ]
                first | (refine Wk.skip (m := 8) (k := 23) rfl (by rfl) ?_) | (refine Wk.step (m := 8) (k := 23) (v := _) rfl (by rfl) (fun wv hS => by obtain ⟨s0, s1, s2, s3, s4, s5, s6, s7, s8, s9, s10, s11, s12, s13⟩ := hS; go_simp; try with_reducible rfl) ?_)
                try simp only [Act.put, List.getElem_toArray, List.getElem_cons_succ, List.getElem_cons_zero, List.setIfInBounds_toArray, List.set_cons_zero, List.set_cons_succ]
                first | (refine Wk.skip (m := 7) (k := 24) rfl (by rfl) ?_) | (refine Wk.step (m := 7) (k := 24) (v := _) rfl (by rfl) (fun wv hS => by obtain ⟨s0, s1, s2, s3, s4, s5, s6, s7, s8, s9, s10, s11, s12, s13⟩ := hS; go_simp; try with_reducible rfl) ?_)
                try simp only [Act.put, List.getElem_toArray, List.getElem_cons_succ, List.getElem_cons_zero, List.setIfInBounds_toArray, List.set_cons_zero, List.set_cons_succ]
                first | (refine Wk.skip (m := 6) (k := 25) rfl (by rfl) ?_) | (refine Wk.step (m := 6) (k := 25) (v := _) rfl (by rfl) (fun wv hS => by obtain ⟨s0, s1, s2, s3, s4, s5, s6, s7, s8, s9, s10, s11, s12, s13⟩ := hS; go_simp; try with_reducible rfl) ?_)
                try simp only [Act.put, List.getElem_toArray, List.getElem_cons_succ, List.getElem_cons_zero, List.setIfInBounds_toArray, List.set_cons_zero, List.set_cons_succ]
                first | (refine Wk.skip (m := 5) (k := 26) rfl (by rfl) ?_) | (refine Wk.step (m := 5) (k := 26) (v := _) rfl (by rfl) (fun wv hS => by obtain ⟨s0, s1, s2, s3, s4, s5, s6, s7, s8, s9, s10, s11, s12, s13⟩ := hS; go_simp; try with_reducible rfl) ?_)
                try simp only [Act.put, List.getElem_toArray, List.getElem_cons_succ, List.getElem_cons_zero, List.setIfInBounds_toArray, List.set_cons_zero, List.set_cons_succ]
                first | (refine Wk.skip (m := 4) (k := 27) rfl (by rfl) ?_) | (refine Wk.step (m := 4) (k := 27) (v := _) rfl (by rfl) (fun wv hS => by obtain ⟨s0, s1, s2, s3, s4, s5, s6, s7, s8, s9, s10, s11, s12, s13⟩ := hS; go_simp; try with_reducible rfl) ?_)
                try simp only [Act.put, List.getElem_toArray, List.getElem_cons_succ, List.getElem_cons_zero, List.setIfInBounds_toArray, List.set_cons_zero, List.set_cons_succ]
                first | (refine Wk.skip (m := 3) (k := 28) rfl (by rfl) ?_) | (refine Wk.step (m := 3) (k := 28) (v := _) rfl (by rfl) (fun wv hS => by obtain ⟨s0, s1, s2, s3, s4, s5, s6, s7, s8, s9, s10, s11, s12, s13⟩ := hS; go_simp; try with_reducible rfl) ?_)
                try simp only [Act.put, List.getElem_toArray, List.getElem_cons_succ, List.getElem_cons_zero, List.setIfInBounds_toArray, List.set_cons_zero, List.set_cons_succ]
                first | (refine Wk.skip (m := 2) (k := 29) rfl (by rfl) ?_) | (refine Wk.step (m := 2) (k := 29) (v := _) rfl (by rfl) (fun wv hS => by obtain ⟨s0, s1, s2, s3, s4, s5, s6, s7, s8, s9, s10, s11, s12, s13⟩ := hS; go_simp; try with_reducible rfl) ?_)
                try simp only [Act.put, List.getElem_toArray, List.getElem_cons_succ, List.getElem_cons_zero, List.setIfInBounds_toArray, List.set_cons_zero, List.set_cons_succ]
                first | (refine Wk.skip (m := 1) (k := 30) rfl (by rfl) ?_) | (refine Wk.step (m := 1) (k := 30) (v := _) rfl (by rfl) (fun wv hS => by obtain ⟨s0, s1, s2, s3, s4, s5, s6, s7, s8, s9, s10, s11, s12, s13⟩ := hS; go_simp; try with_reducible rfl) ?_)
                try simp only [Act.put, List.getElem_toArray, List.getElem_cons_succ, List.getElem_cons_zero, List.setIfInBounds_toArray, List.set_cons_zero, List.set_cons_succ]
                first | (refine Wk.skip (m := 0) (k := 31) rfl (by rfl) ?_) | (refine Wk.step (m := 0) (k := 31) (v := _) rfl (by rfl) (fun wv hS => by obtain ⟨s0, s1, s2, s3, s4, s5, s6, s7, s8, s9, s10, s11, s12, s13⟩ := hS; go_simp; try with_reducible rfl) ?_)
                try simp only [Act.put, List.getElem_toArray, List.getElem_cons_succ, List.getElem_cons_zero, List.setIfInBounds_toArray, List.set_cons_zero, List.set_cons_succ]
                refine Wk.done fun wF hF => ?_
                clear k0 k1 j0 d0 d1 d2 d3 q0 q1 q2 q3 u0 v0
                obtain ⟨mF, k0, k1, j0, d0, d1, d2, d3, q0, q1, q2, q3, u0, v0⟩ := hF
                go_wp2_with fail
                go_ret
                exact ⟨retB (by rw [HR.out, HE.out]), (MY.trans mF)⟩
              · have hN' : (u.nd != v.nd) = false := by simp only [bne, hN]; rfl
                have HE := Lib.hid (allN_go hS.out (show wpI n0 zl n1 ps k = true by unfold wpI; rw [HPn.out, hkb, HYX.out, hN]; rfl))
                clear hN hkb
                refine wp_region_wk (fun w' => Mk0 (wE.alloc (Obj.cells #[Value.int .i64 y.kind, Value.int .i64 y.ts, Value.int .i64 y.beta, Value.slice (some ⟨b5, o5, none⟩) n4 c4] 50)) w' ∧ w'.cell? ⟨w.heap.size, 0, none⟩ = some (.slice a0 n0 c0) ∧ w'.cell? ⟨w.heap.size, 1, none⟩ = some (.slice a1 n1 c1) ∧ w'.cell? ⟨w.heap.size + 1, 0, none⟩ = some (.slice (some ⟨b, off, none⟩) n c) ∧ w'.cell? ⟨b, off + k * 4, none⟩ = some (.int .i64 x.kind) ∧ w'.cell? ⟨b, off + k * 4 + 1, none⟩ = some (.int .i64 x.ts) ∧ w'.cell? ⟨b, off + k * 4 + 2, none⟩ = some (.int .i64 x.beta) ∧ w'.cell? ⟨b, off + k * 4 + 3, none⟩ = some (.slice (some ⟨b6, o6, none⟩) n3 c3) ∧ w'.cell? ⟨wE.heap.size, 0, none⟩ = some (.int .i64 y.kind) ∧ w'.cell? ⟨wE.heap.size, 1, none⟩ = some (.int .i64 y.ts) ∧ w'.cell? ⟨wE.heap.size, 2, none⟩ = some (.int .i64 y.beta) ∧ w'.cell? ⟨wE.heap.size, 3, none⟩ = some (.slice (some ⟨b5, o5, none⟩) n4 c4) ∧ w'.cell? ⟨b5, o5 + m * 5, none⟩ = some (.int .i64 u.nd) ∧ w'.cell? ⟨b6, o6, none⟩ = some (.int .i64 v.nd)) (by kernel_rfl) (by kernel_rfl) (⟨Mk.drew1 _, k0, k1, j0, d0, d1, d2, d3, q0, q1, q2, q3, u0, v0⟩) ?_
                change Wk _ _ _ _ 32 0 _
                first | (refine Wk.skip (m := 31) (k := 0) rfl (by rfl) ?_) | (refine Wk.step (m := 31) (k := 0) (v := _) rfl (by rfl) (fun wv hS => by obtain ⟨s0, s1, s2, s3, s4, s5, s6, s7, s8, s9, s10, s11, s12, s13⟩ := hS; go_simp; try with_reducible rfl) ?_)
                try simp only [Act.put, List.getElem_toArray, List.getElem_cons_zero, List.setIfInBounds_toArray, List.set_cons_zero, List.set_cons_succ]
                first | (refine Wk.skip (m := 30) (k := 1) rfl (by rfl) ?_) | (refine Wk.step (m := 30) (k := 1) (v := _) rfl (by rfl) (fun wv hS => by obtain ⟨s0, s1, s2, s3, s4, s5, s6, s7, s8, s9, s10, s11, s12, s13⟩ := hS; go_simp; try with_reducible rfl) ?_)
                try simp only [Act.put, List.getElem_toArray, List.getElem_cons_succ, List.getElem_cons_zero, List.setIfInBounds_toArray, List.set_cons_zero, List.set_cons_succ]
                refine Wk.call (m := 29) (k := 2) (v := .int .i64 Ry) _ _ rfl (by rfl) (fun wv hS => by obtain ⟨s0, s1, s2, s3, s4, s5, s6, s7, s8, s9, s10, s11, s12, s13⟩ := hS; go_simp; first | done | exact ⟨rfl, rfl⟩ | with_reducible rfl) (fun wv hS => ?_) ?_; · obtain ⟨s0, s1, s2, s3, s4, s5, s6, s7, s8, s9, s10, s11, s12, s13⟩ := hS; refine (specRank y.kind wv).mono ?_; rintro e w' ⟨he, rfl⟩; exact ⟨by rw [he, ← hRy.out], ⟨s0, s1, s2, s3, s4, s5, s6, s7, s8, s9, s10, s11, s12, s13⟩⟩
                try simp only [Act.put, List.getElem_toArray, List.getElem_cons_succ, List.getElem_cons_zero, List.setIfInBounds_toArray, List.set_cons_zero, List.set_cons_succ]
                first | (refine Wk.skip (m := 28) (k := 3) rfl (by rfl) ?_) | (refine Wk.step (m := 28) (k := 3) (v := _) rfl (by rfl) (fun wv hS => by obtain ⟨s0, s1, s2, s3, s4, s5, s6, s7, s8, s9, s10, s11, s12, s13⟩ := hS; go_simp; try with_reducible rfl) ?_)
                try simp only [Act.put, List.getElem_toArray, List.getElem_cons_succ, List.getElem_cons_zero, List.setIfInBounds_toArray, List.set_cons_zero, List.set_cons_succ]
                first | (refine Wk.skip (m := 27) (k := 4) rfl (by rfl) ?_) | (refine Wk.step (m := 27) (k := 4) (v := _) rfl (by rfl) (fun wv hS => by obtain ⟨s0, s1, s2, s3, s4, s5, s6, s7, s8, s9, s10, s11, s12, s13⟩ := hS; go_simp; try with_reducible rfl) ?_)
                try simp only [Act.put, List.getElem_toArray, List.getElem_cons_succ, List.getElem_cons_zero, List.setIfInBounds_toArray, List.set_cons_zero, List.set_cons_succ]
                first | (refine Wk.skip (m := 26) (k := 5) rfl (by rfl) ?_) | (refine Wk.step (m := 26) (k := 5) (v := _) rfl (by rfl) (fun wv hS => by obtain ⟨s0, s1, s2, s3, s4, s5, s6, s7, s8, s9, s10, s11, s12, s13⟩ := hS; go_simp; try with_reducible rfl) ?_)
                try simp only [Act.put, List.getElem_toArray, List.getElem_cons_succ, List.getElem_cons_zero, List.setIfInBounds_toArray, List.set_cons_zero, List.set_cons_succ]
                first | (refine Wk.skip (m := 25) (k := 6) rfl (by rfl) ?_) | (refine Wk.step (m := 25) (k := 6) (v := _) rfl (by rfl) (fun wv hS => by obtain ⟨s0, s1, s2, s3, s4, s5, s6, s7, s8, s9, s10, s11, s12, s13⟩ := hS; go_simp; try with_reducible rfl) ?_)
                try simp only [Act.put, List.getElem_toArray, List.getElem_cons_succ, List.getElem_cons_zero, List.setIfInBounds_toArray, List.set_cons_zero, List.set_cons_succ]
                first | (refine Wk.skip (m := 24) (k := 7) rfl (by rfl) ?_) | (refine Wk.step (m := 24) (k := 7) (v := _) rfl (by rfl) (fun wv hS => by obtain ⟨s0, s1, s2, s3, s4, s5, s6, s7, s8, s9, s10, s11, s12, s13⟩ := hS; go_simp; try with_reducible rfl) ?_)
                try simp only [Act.put, List.getElem_toArray, List.getElem_cons_succ, List.getElem_cons_zero, List.setIfInBounds_toArray, List.set_cons_zero, List.set_cons_succ]
                first | (refine Wk.skip (m := 23) (k := 8) rfl (by rfl) ?_) | (refine Wk.step (m := 23) (k := 8) (v := _) rfl (by rfl) (fun wv hS => by obtain ⟨s0, s1, s2, s3, s4, s5, s6, s7, s8, s9, s10, s11, s12, s13⟩ := hS; go_simp; try with_reducible rfl) ?_)
                try simp only [Act.put, List.getElem_toArray, List.getElem_cons_succ, List.getElem_cons_zero, List.setIfInBounds_toArray, List.set_cons_zero, List.set_cons_succ]
                refine Wk.call (m := 22) (k := 9) (v := .int .i64 Rx) _ _ rfl (by rfl) (fun wv hS => by obtain ⟨s0, s1, s2, s3, s4, s5, s6, s7, s8, s9, s10, s11, s12, s13⟩ := hS; go_simp; first | done | exact ⟨rfl, rfl⟩ | with_reducible rfl) (fun wv hS => ?_) ?_; · obtain ⟨s0, s1, s2, s3, s4, s5, s6, s7, s8, s9, s10, s11, s12, s13⟩ := hS; refine (specRank x.kind wv).mono ?_; rintro e w' ⟨he, rfl⟩; exact ⟨by rw [he, ← hRx.out], ⟨s0, s1, s2, s3, s4, s5, s6, s7, s8, s9, s10, s11, s12, s13⟩⟩
                try simp only [Act.put, List.getElem_toArray, List.getElem_cons_succ, List.getElem_cons_zero, List.setIfInBounds_toArray, List.set_cons_zero, List.set_cons_succ]
                first | (refine Wk.skip (m := 21) (k := 10) rfl (by rfl) ?_) | (refine Wk.step (m := 21) (k := 10) (v := _) rfl (by rfl) (fun wv hS => by obtain ⟨s0, s1, s2, s3, s4, s5, s6, s7, s8, s9, s10, s11, s12, s13⟩ := hS; go_simp; try with_reducible rfl) ?_)
                try simp only [Act.put, List.getElem_toArray, List.getElem_cons_succ, List.getElem_cons_zero, List.setIfInBounds_toArray, List.set_cons_zero, List.set_cons_succ]
                first | (refine Wk.skip (m := 20) (k := 11) rfl (by rfl) ?_) | (refine Wk.step (m := 20) (k := 11) (v := _) rfl (by rfl) (fun wv hS => by obtain ⟨s0, s1, s2, s3, s4, s5, s6, s7, s8, s9, s10, s11, s12, s13⟩ := hS; go_simp; try with_reducible rfl) ?_)
                try simp only [Act.put, List.getElem_toArray, List.getElem_cons_succ, List.getElem_cons_zero, List.setIfInBounds_toArray, List.set_cons_zero, List.set_cons_succ]
                first | (refine Wk.skip (m := 19) (k := 12) rfl (by rfl) ?_) | (refine Wk.step (m := 19) (k := 12) (v := _) rfl (by rfl) (fun wv hS => by obtain ⟨s0, s1, s2, s3, s4, s5, s6, s7, s8, s9, s10, s11, s12, s13⟩ := hS; go_simp; try with_reducible rfl) ?_)
                try simp only [Act.put, List.getElem_toArray, List.getElem_cons_succ, List.getElem_cons_zero, List.setIfInBounds_toArray, List.set_cons_zero, List.set_cons_succ]
                first | (refine Wk.skip (m := 18) (k := 13) rfl (by rfl) ?_) | (refine Wk.step (m := 18) (k := 13) (v := _) rfl (by rfl) (fun wv hS => by obtain ⟨s0, s1, s2, s3, s4, s5, s6, s7, s8, s9, s10, s11, s12, s13⟩ := hS; go_simp; try with_reducible rfl) ?_)
                try simp only [Act.put, List.getElem_toArray, List.getElem_cons_succ, List.getElem_cons_zero, List.setIfInBounds_toArray, List.set_cons_zero, List.set_cons_succ]
                first | (refine Wk.skip (m := 17) (k := 14) rfl (by rfl) ?_) | (refine Wk.step (m := 17) (k := 14) (v := _) rfl (by rfl) (fun wv hS => by obtain ⟨s0, s1, s2, s3, s4, s5, s6, s7, s8, s9, s10, s11, s12, s13⟩ := hS; go_simp; try with_reducible rfl) ?_)
                try simp only [Act.put, List.getElem_toArray, List.getElem_cons_succ, List.getElem_cons_zero, List.setIfInBounds_toArray, List.set_cons_zero, List.set_cons_succ]
                first | (refine Wk.skip (m := 16) (k := 15) rfl (by rfl) ?_) | (refine Wk.step (m := 16) (k := 15) (v := _) rfl (by rfl) (fun wv hS => by obtain ⟨s0, s1, s2, s3, s4, s5, s6, s7, s8, s9, s10, s11, s12, s13⟩ := hS; go_simp; try with_reducible rfl) ?_)
                try simp only [Act.put, List.getElem_toArray, List.getElem_cons_succ, List.getElem_cons_zero, List.setIfInBounds_toArray, List.set_cons_zero, List.set_cons_succ]
                first | (refine Wk.skip (m := 15) (k := 16) rfl (by rfl) ?_) | (refine Wk.step (m := 15) (k := 16) (v := _) rfl (by rfl) (fun wv hS => by obtain ⟨s0, s1, s2, s3, s4, s5, s6, s7, s8, s9, s10, s11, s12, s13⟩ := hS; go_simp; try with_reducible rfl) ?_)
                try simp only [Act.put, List.getElem_toArray, List.getElem_cons_succ, List.getElem_cons_zero, List.setIfInBounds_toArray, List.set_cons_zero, List.set_cons_succ]
                first | (refine Wk.skip (m := 14) (k := 17) rfl (by rfl) ?_) | (refine Wk.step (m := 14) (k := 17) (v := _) rfl (by rfl) (fun wv hS => by obtain ⟨s0, s1, s2, s3, s4, s5, s6, s7, s8, s9, s10, s11, s12, s13⟩ := hS; go_simp; try with_reducible rfl) ?_)
                try simp only [Act.put, List.getElem_toArray, List.getElem_cons_succ, List.getElem_cons_zero, List.setIfInBounds_toArray, List.set_cons_zero, List.set_cons_succ]
                first | (refine Wk.skip (m := 13) (k := 18) rfl (by rfl) ?_) | (refine Wk.step (m := 13) (k := 18) (v := _) rfl (by rfl) (fun wv hS => by obtain ⟨s0, s1, s2, s3, s4, s5, s6, s7, s8, s9, s10, s11, s12, s13⟩ := hS; go_simp; try with_reducible rfl) ?_)
                try simp only [Act.put, List.getElem_toArray, List.getElem_cons_succ, List.getElem_cons_zero, List.setIfInBounds_toArray, List.set_cons_zero, List.set_cons_succ]
                first | (refine Wk.skip (m := 12) (k := 19) rfl (by rfl) ?_) | (refine Wk.step (m := 12) (k := 19) (v := _) rfl (by rfl) (fun wv hS => by obtain ⟨s0, s1, s2, s3, s4, s5, s6, s7, s8, s9, s10, s11, s12, s13⟩ := hS; go_simp; try with_reducible rfl) ?_)
                try simp only [Act.put, List.getElem_toArray, List.getElem_cons_succ, List.getElem_cons_zero, List.setIfInBounds_toArray, List.set_cons_zero, List.set_cons_succ]
                first | (refine Wk.skip (m := 11) (k := 20) rfl (by rfl) ?_) | (refine Wk.step (m := 11) (k := 20) (v := _) rfl (by rfl) (fun wv hS => by obtain ⟨s0, s1, s2, s3, s4, s5, s6, s7, s8, s9, s10, s11, s12, s13⟩ := hS; go_simp; try with_reducible rfl) ?_)
                try simp only [Act.put, List.getElem_toArray, List.getElem_cons_succ, List.getElem_cons_zero, List.setIfInBounds_toArray, List.set_cons_zero, List.set_cons_succ]
                first | (refine Wk.skip (m := 10) (k := 21) rfl (by rfl) ?_) | (refine Wk.step (m := 10) (k := 21) (v := _) rfl (by rfl) (fun wv hS => by obtain ⟨s0, s1, s2, s3, s4, s5, s6, s7, s8, s9, s10, s11, s12, s13⟩ := hS; go_simp; try with_reducible rfl) ?_)
                try simp only [Act.put, List.getElem_toArray, List.getElem_cons_succ, List.getElem_cons_zero, List.setIfInBounds_toArray, List.set_cons_zero, List.set_cons_succ]
                first | (refine Wk.skip (m := 9) (k := 22) rfl (by rfl) ?_) | (refine Wk.step (m := 9) (k := 22) (v := _) rfl (by rfl) (fun wv hS => by obtain ⟨s0, s1, s2, s3, s4, s5, s6, s7, s8, s9, s10, s11, s12, s13⟩ := hS; go_simp; try with_reducible rfl) ?_)
                try simp only [Act.put, List.getElem_toArray, List.getElem_cons_succ, List.getElem_cons_zero, List.setIfInBounds_toArray, List.set_cons_zero, List.set_cons_succ]
                first | (refine Wk.skip (m := 8) (k := 23) rfl (by rfl) ?_) | (refine Wk.step (m := 8) (k := 23) (v := _) rfl (by rfl) (fun wv hS => by obtain ⟨s0, s1, s2, s3, s4, s5, s6, s7, s8, s9, s10, s11, s12, s13⟩ := hS; go_simp; try with_reducible rfl) ?_)
                try simp only [Act.put, List.getElem_toArray, List.getElem_cons_succ, List.getElem_cons_zero, List.setIfInBounds_toArray, List.set_cons_zero, List.set_cons_succ]
                first | (refine Wk.skip (m := 7) (k := 24) rfl (by rfl) ?_) | (refine Wk.step (m := 7) (k := 24) (v := _) rfl (by rfl) (fun wv hS => by obtain ⟨s0, s1, s2, s3, s4, s5, s6, s7, s8, s9, s10, s11, s12, s13⟩ := hS; go_simp; try with_reducible rfl) ?_)
                try simp only [Act.put, List.getElem_toArray, List.getElem_cons_succ, List.getElem_cons_zero, List.setIfInBounds_toArray, List.set_cons_zero, List.set_cons_succ]
                first | (refine Wk.skip (m := 6) (k := 25) rfl (by rfl) ?_) | (refine Wk.step (m := 6) (k := 25) (v := _) rfl (by rfl) (fun wv hS => by obtain ⟨s0, s1, s2, s3, s4, s5, s6, s7, s8, s9, s10, s11, s12, s13⟩ := hS; go_simp; try with_reducible rfl) ?_)
                try simp only [Act.put, List.getElem_toArray, List.getElem_cons_succ, List.getElem_cons_zero, List.setIfInBounds_toArray, List.set_cons_zero, List.set_cons_succ]
                first | (refine Wk.skip (m := 5) (k := 26) rfl (by rfl) ?_) | (refine Wk.step (m := 5) (k := 26) (v := _) rfl (by rfl) (fun wv hS => by obtain ⟨s0, s1, s2, s3, s4, s5, s6, s7, s8, s9, s10, s11, s12, s13⟩ := hS; go_simp; try with_reducible rfl) ?_)
                try simp only [Act.put, List.getElem_toArray, List.getElem_cons_succ, List.getElem_cons_zero, List.setIfInBounds_toArray, List.set_cons_zero, List.set_cons_succ]
                first | (refine Wk.skip (m := 4) (k := 27) rfl (by rfl) ?_) | (refine Wk.step (m := 4) (k := 27) (v := _) rfl (by rfl) (fun wv hS => by obtain ⟨s0, s1, s2, s3, s4, s5, s6, s7, s8, s9, s10, s11, s12, s13⟩ := hS; go_simp; try with_reducible rfl) ?_)
                try simp only [Act.put, List.getElem_toArray, List.getElem_cons_succ, List.getElem_cons_zero, List.setIfInBounds_toArray, List.set_cons_zero, List.set_cons_succ]
                first | (refine Wk.skip (m := 3) (k := 28) rfl (by rfl) ?_) | (refine Wk.step (m := 3) (k := 28) (v := _) rfl (by rfl) (fun wv hS => by obtain ⟨s0, s1, s2, s3, s4, s5, s6, s7, s8, s9, s10, s11, s12, s13⟩ := hS; go_simp; try with_reducible rfl) ?_)
                try simp only [Act.put, List.getElem_toArray, List.getElem_cons_succ, List.getElem_cons_zero, List.setIfInBounds_toArray, List.set_cons_zero, List.set_cons_succ]
                first | (refine Wk.skip (m := 2) (k := 29) rfl (by rfl) ?_) | (refine Wk.step (m := 2) (k := 29) (v := _) rfl (by rfl) (fun wv hS => by obtain ⟨s0, s1, s2, s3, s4, s5, s6, s7, s8, s9, s10, s11, s12, s13⟩ := hS; go_simp; try with_reducible rfl) ?_)
                try simp only [Act.put, List.getElem_toArray, List.getElem_cons_succ, List.getElem_cons_zero, List.setIfInBounds_toArray, List.set_cons_zero, List.set_cons_succ]
                first | (refine Wk.skip (m := 1) (k := 30) rfl (by rfl) ?_) | (refine Wk.step (m := 1) (k := 30) (v := _) rfl (by rfl) (fun wv hS => by obtain ⟨s0, s1, s2, s3, s4, s5, s6, s7, s8, s9, s10, s11, s12, s13⟩ := hS; go_simp; try with_reducible rfl) ?_)
                try simp only [Act.put, List.getElem_toArray, List.getElem_cons_succ, List.getElem_cons_zero, List.setIfInBounds_toArray, List.set_cons_zero, List.set_cons_succ]
                first | (refine Wk.skip (m := 0) (k := 31) rfl (by rfl) ?_) | (refine Wk.step (m := 0) (k := 31) (v := _) rfl (by rfl) (fun wv hS => by obtain ⟨s0, s1, s2, s3, s4, s5, s6, s7, s8, s9, s10, s11, s12, s13⟩ := hS; go_simp; try with_reducible rfl) ?_)
                try simp only [Act.put, List.getElem_toArray, List.getElem_cons_succ, List.getElem_cons_zero, List.setIfInBounds_toArray, List.set_cons_zero, List.set_cons_succ]
                refine Wk.done fun wF hF => ?_
                clear k0 k1 j0 d0 d1 d2 d3 q0 q1 q2 q3 u0 v0
                obtain ⟨mF, k0, k1, j0, d0, d1, d2, d3, q0, q1, q2, q3, u0, v0⟩ := hF
                go_wp2_with fail
                go_roundw
                case rel => exact ⟨rfl, k + 1, by omega, by go_num, HE.out, (NY.trans mF)⟩
                case measure => simp [intOf]; omega
            · have d1q : decide (Rx ≤ Ry) = true := decide_eq_true (by omega)
              rw [decide_eq_false hRK] at HYX
              have HE := Lib.hid (allN_stop (p := wpI n0 zl n1 ps) (n := n) (show wpI n0 zl n1 ps k = false by unfold wpI; rw [HPn.out, hkb, HYX.out]; rfl) hlt)
              clear hkb hRK
              refine wp_region_wk (fun w' => Mk0 (wE.alloc (Obj.cells #[Value.int .i64 y.kind, Value.int .i64 y.ts, Value.int .i64 y.beta, Value.slice (some ⟨b5, o5, none⟩) n4 c4] 50)) w' ∧ w'.cell? ⟨w.heap.size, 0, none⟩ = some (.slice a0 n0 c0) ∧ w'.cell? ⟨w.heap.size, 1, none⟩ = some (.slice a1 n1 c1) ∧ w'.cell? ⟨w.heap.size + 1, 0, none⟩ = some (.slice (some ⟨b, off, none⟩) n c) ∧ w'.cell? ⟨b, off + k * 4, none⟩ = some (.int .i64 x.kind) ∧ w'.cell? ⟨b, off + k * 4 + 1, none⟩ = some (.int .i64 x.ts) ∧ w'.cell? ⟨b, off + k * 4 + 2, none⟩ = some (.int .i64 x.beta) ∧ w'.cell? ⟨b, off + k * 4 + 3, none⟩ = some (.slice (some ⟨b6, o6, none⟩) n3 c3) ∧ w'.cell? ⟨wE.heap.size, 0, none⟩ = some (.int .i64 y.kind) ∧ w'.cell? ⟨wE.heap.size, 1, none⟩ = some (.int .i64 y.ts) ∧ w'.cell? ⟨wE.heap.size, 2, none⟩ = some (.int .i64 y.beta) ∧ w'.cell? ⟨wE.heap.size, 3, none⟩ = some (.slice (some ⟨b5, o5, none⟩) n4 c4) ∧ w'.cell? ⟨b5, o5 + m * 5, none⟩ = some (.int .i64 u.nd) ∧ w'.cell? ⟨b6, o6, none⟩ = some (.int .i64 v.nd)) (by kernel_rfl) (by kernel_rfl) (⟨Mk.drew1 _, k0, k1, j0, d0, d1, d2, d3, q0, q1, q2, q3, u0, v0⟩) ?_
              change Wk _ _ _ _ 32 0 _
              first | (refine Wk.skip (m := 31) (k := 0) rfl (by rfl) ?_) | (refine Wk.step (m := 31) (k := 0) (v := _) rfl (by rfl) (fun wv hS => by obtain ⟨s0, s1, s2, s3, s4, s5, s6, s7, s8, s9, s10, s11, s12, s13⟩ := hS; go_simp; try with_reducible rfl) ?_)
              try simp only [Act.put, List.getElem_toArray, List.getElem_cons_zero, List.setIfInBounds_toArray, List.set_cons_zero, List.set_cons_succ]
              first | (refine Wk.skip (m := 30) (k := 1) rfl (by rfl) ?_) | (refine Wk.step (m := 30) (k := 1) (v := _) rfl (by rfl) (fun wv hS => by obtain ⟨s0, s1, s2, s3, s4, s5, s6, s7, s8, s9, s10, s11, s12, s13⟩ := hS; go_simp; try with_reducible rfl) ?_)
              try simp only [Act.put, List.getElem_toArray, List.getElem_cons_succ, List.getElem_cons_zero, List.setIfInBounds_toArray, List.set_cons_zero, List.set_cons_succ]
              refine Wk.call (m := 29) (k := 2) (v := .int .i64 Ry) _ _ rfl (by rfl) (fun wv hS => by obtain ⟨s0, s1, s2, s3, s4, s5, s6, s7, s8, s9, s10, s11, s12, s13⟩ := hS; go_simp; first | done | exact ⟨rfl, rfl⟩ | with_reducible rfl) (fun wv hS => ?_) ?_; · obtain ⟨s0, s1, s2, s3, s4, s5, s6, s7, s8, s9, s10, s11, s12, s13⟩ := hS; refine (specRank y.kind wv).mono ?_; rintro e w' ⟨he, rfl⟩; exact ⟨by rw [he, ← hRy.out], ⟨s0, s1, s2, s3, s4, s5, s6, s7, s8, s9, s10, s11, s12, s13⟩⟩
              try simp only [Act.put, List.getElem_toArray, List.getElem_cons_succ, List.getElem_cons_zero, List.setIfInBounds_toArray, List.set_cons_zero, List.set_cons_succ]
              first | (refine Wk.skip (m := 28) (k := 3) rfl (by rfl) ?_) | (refine Wk.step (m := 28) (k := 3) (v := _) rfl (by rfl) (fun wv hS => by obtain ⟨s0, s1, s2, s3, s4, s5, s6, s7, s8, s9, s10, s11, s12, s13⟩ := hS; go_simp; try with_reducible rfl) ?_)
              try simp only [Act.put, List.getElem_toArray, List.getElem_cons_succ, List.getElem_cons_zero, List.setIfInBounds_toArray, List.set_cons_zero, List.set_cons_succ]
              first | (refine Wk.skip (m := 27) (k := 4) rfl (by rfl) ?_) | (refine Wk.step (m := 27) (k := 4) (v := _) rfl (by rfl) (fun wv hS => by obtain ⟨s0, s1, s2, s3, s4, s5, s6, s7, s8, s9, s10, s11, s12, s13⟩ := hS; go_simp; try with_reducible rfl) ?_)
              try simp only [Act.put, List.getElem_toArray, List.getElem_cons_succ, List.getElem_cons_zero, List.setIfInBounds_toArray, List.set_cons_zero, List.set_cons_succ]
              first | (refine Wk.skip (m := 26) (k := 5) rfl (by rfl) ?_) | (refine Wk.step (m := 26) (k := 5) (v := _) rfl (by rfl) (fun wv hS => by obtain ⟨s0, s1, s2, s3, s4, s5, s6, s7, s8, s9, s10, s11, s12, s13⟩ := hS; go_simp; try with_reducible rfl) ?_)
              try simp only [Act.put, List.getElem_toArray, List.getElem_cons_succ, List.getElem_cons_zero, List.setIfInBounds_toArray, List.set_cons_zero, List.set_cons_succ]
              first | (refine Wk.skip (m := 25) (k := 6) rfl (by rfl) ?_) | (refine Wk.step (m := 25) (k := 6) (v := _) rfl (by rfl) (fun wv hS => by obtain ⟨s0, s1, s2, s3, s4, s5, s6, s7, s8, s9, s10, s11, s12, s13⟩ := hS; go_simp; try with_reducible rfl) ?_)
              try simp only [Act.put, List.getElem_toArray, List.getElem_cons_succ, List.getElem_cons_zero, List.setIfInBounds_toArray, List.set_cons_zero, List.set_cons_succ]
              first | (refine Wk.skip (m := 24) (k := 7) rfl (by rfl) ?_) | (refine Wk.step (m := 24) (k := 7) (v := _) rfl (by rfl) (fun wv hS => by obtain ⟨s0, s1, s2, s3, s4, s5, s6, s7, s8, s9, s10, s11, s12, s13⟩ := hS; go_simp; try with_reducible rfl) ?_)
              try simp only [Act.put, List.getElem_toArray, List.getElem_cons_succ, List.getElem_cons_zero, List.setIfInBounds_toArray, List.set_cons_zero, List.set_cons_succ]
              first | (refine Wk.skip (m := 23) (k := 8) rfl (by rfl) ?_) | (refine Wk.step (m := 23) (k := 8) (v := _) rfl (by rfl) (fun wv hS => by obtain ⟨s0, s1, s2, s3, s4, s5, s6, s7, s8, s9, s10, s11, s12, s13⟩ := hS; go_simp; try with_reducible rfl) ?_)
              try simp only [Act.put, List.getElem_toArray, List.getElem_cons_succ, List.getElem_cons_zero, List.setIfInBounds_toArray, List.set_cons_zero, List.set_cons_succ]
              refine Wk.call (m := 22) (k := 9) (v := .int .i64 Rx) _ _ rfl (by rfl) (fun wv hS => by obtain ⟨s0, s1, s2, s3, s4, s5, s6, s7, s8, s9, s10, s11, s12, s13⟩ := hS; go_simp; first | done | exact ⟨rfl, rfl⟩ | with_reducible rfl) (fun wv hS => ?_) ?_; · obtain ⟨s0, s1, s2, s3, s4, s5, s6, s7, s8, s9, s10, s11, s12, s13⟩ := hS; refine (specRank x.kind wv).mono ?_; rintro e w' ⟨he, rfl⟩; exact ⟨by rw [he, ← hRx.out], ⟨s0, s1, s2, s3, s4, s5, s6, s7, s8, s9, s10, s11, s12, s13⟩⟩
              try simp only [Act.put, List.getElem_toArray, List.getElem_cons_succ, List.getElem_cons_zero, List.setIfInBounds_toArray, List.set_cons_zero, List.set_cons_succ]
              first | (refine Wk.skip (m := 21) (k := 10) rfl (by rfl) ?_) | (refine Wk.step (m := 21) (k := 10) (v := _) rfl (by rfl) (fun wv hS => by obtain ⟨s0, s1, s2, s3, s4, s5, s6, s7, s8, s9, s10, s11, s12, s13⟩ := hS; go_simp; try with_reducible rfl) ?_)
              try simp only [Act.put, List.getElem_toArray, List.getElem_cons_succ, List.getElem_cons_zero, List.setIfInBounds_toArray, List.set_cons_zero, List.set_cons_succ]
              first | (refine Wk.skip (m := 20) (k := 11) rfl (by rfl) ?_) | (refine Wk.step (m := 20) (k := 11) (v := _) rfl (by rfl) (fun wv hS => by obtain ⟨s0, s1, s2, s3, s4, s5, s6, s7, s8, s9, s10, s11, s12, s13⟩ := hS; go_simp; try with_reducible rfl) ?_)
              try simp only [Act.put, List.getElem_toArray, List.getElem_cons_succ, List.getElem_cons_zero, List.setIfInBounds_toArray, List.set_cons_zero, List.set_cons_succ]
              first | (refine Wk.skip (m := 19) (k := 12) rfl (by rfl) ?_) | (refine Wk.step (m := 19) (k := 12) (v := _) rfl (by rfl) (fun wv hS => by obtain ⟨s0, s1, s2, s3, s4, s5, s6, s7, s8, s9, s10, s11, s12, s13⟩ := hS; go_simp; try with_reducible rfl) ?_)
              try simp only [Act.put, List.getElem_toArray, List.getElem_cons_succ, List.getElem_cons_zero, List.setIfInBounds_toArray, List.set_cons_zero, List.set_cons_succ]
              first | (refine Wk.skip (m := 18) (k := 13) rfl (by rfl) ?_) | (refine Wk.step (m := 18) (k := 13) (v := _) rfl (by rfl) (fun wv hS => by obtain ⟨s0, s1, s2, s3, s4, s5, s6, s7, s8, s9, s10, s11, s12, s13⟩ := hS; go_simp; try with_reducible rfl) ?_)
              try simp only [Act.put, List.getElem_toArray, List.getElem_cons_succ, List.getElem_cons_zero, List.setIfInBounds_toArray, List.set_cons_zero, List.set_cons_succ]
              first | (refine Wk.skip (m := 17) (k := 14) rfl (by rfl) ?_) | (refine Wk.step (m := 17) (k := 14) (v := _) rfl (by rfl) (fun wv hS => by obtain ⟨s0, s1, s2, s3, s4, s5, s6, s7, s8, s9, s10, s11, s12, s13⟩ := hS; go_simp; try with_reducible rfl) ?_)
              try simp only [Act.put, List.getElem_toArray, List.getElem_cons_succ, List.getElem_cons_zero, List.setIfInBounds_toArray, List.set_cons_zero, List.set_cons_succ]
              first | (refine Wk.skip (m := 16) (k := 15) rfl (by rfl) ?_) | (refine Wk.step (m := 16) (k := 15) (v := _) rfl (by rfl) (fun wv hS => by obtain ⟨s0, s1, s2, s3, s4, s5, s6, s7, s8, s9, s10, s11, s12, s13⟩ := hS; go_simp; try with_reducible rfl) ?_)
              try simp only [Act.put, List.getElem_toArray, List.getElem_cons_succ, List.getElem_cons_zero, List.setIfInBounds_toArray, List.set_cons_zero, List.set_cons_succ]
              first | (refine Wk.skip (m := 15) (k := 16) rfl (by rfl) ?_) | (refine Wk.step (m := 15) (k := 16) (v := _) rfl (by rfl) (fun wv hS => by obtain ⟨s0, s1, s2, s3, s4, s5, s6, s7, s8, s9, s10, s11, s12, s13⟩ := hS; go_simp; try with_reducible rfl) ?_)
              try simp only [Act.put, List.getElem_toArray, List.getElem_cons_succ, List.getElem_cons_zero, List.setIfInBounds_toArray, List.set_cons_zero, List.set_cons_succ]
              first | (refine Wk.skip (m := 14) (k := 17) rfl (by rfl) ?_) | (refine Wk.step (m := 14) (k := 17) (v := _) rfl (by rfl) (fun wv hS => by obtain ⟨s0, s1, s2, s3, s4, s5, s6, s7, s8, s9, s10, s11, s12, s13⟩ := hS; go_simp; try with_reducible rfl) ?_)
              try simp only [Act.put, List.getElem_toArray, List.getElem_cons_succ, List.getElem_cons_zero, List.setIfInBounds_toArray, List.set_cons_zero, List.set_cons_succ]
              first | (refine Wk.skip (m := 13) (k := 18) rfl (by rfl) ?_) | (refine Wk.step (m := 13) (k := 18) (v := _) rfl (by rfl) (fun wv hS => by obtain ⟨s0, s1, s2, s3, s4, s5, s6, s7, s8, s9, s10, s11, s12, s13⟩ := hS; go_simp; try with_reducible rfl) ?_)
              try simp only [Act.put, List.getElem_toArray, List.getElem_cons_succ, List.getElem_cons_zero, List.setIfInBounds_toArray, List.set_cons_zero, List.set_cons_succ]
              first | (refine Wk.skip (m := 12) (k := 19) rfl (by rfl) ?_) | (refine Wk.step (m := 12) (k := 19) (v := _) rfl (by rfl) (fun wv hS => by obtain ⟨s0, s1, s2, s3, s4, s5, s6, s7, s8, s9, s10, s11, s12, s13⟩ := hS; go_simp; try with_reducible rfl) ?_)
              try simp only [Act.put, List.getElem_toArray, List.getElem_cons_succ, List.getElem_cons_zero, List.setIfInBounds_toArray, List.set_cons_zero, List.set_cons_succ]
              first | (refine Wk.skip (m := 11) (k := 20) rfl (by rfl) ?_) | (refine Wk.step (m := 11) (k := 20) (v := _) rfl (by rfl) (fun wv hS => by obtain ⟨s0, s1, s2, s3, s4, s5, s6, s7, s8, s9, s10, s11, s12, s13⟩ := hS; go_simp; try with_reducible rfl) ?_)
              try simp only [Act.put, List.getElem_toArray, List.getElem_cons_succ, List.getElem_cons_zero, List.setIfInBounds_toArray, List.set_cons_zero, List.set_cons_succ]
              first | (refine Wk.skip (m := 10) (k := 21) rfl (by rfl) ?_) | (refine Wk.step (m := 10) (k := 21) (v := _) rfl (by rfl) (fun wv hS => by obtain ⟨s0, s1, s2, s3, s4, s5, s6, s7, s8, s9, s10, s11, s12, s13⟩ := hS; go_simp; try with_reducible rfl) ?_)
              try simp only [Act.put, List.getElem_toArray, List.getElem_cons_succ, List.getElem_cons_zero, List.setIfInBounds_toArray, List.set_cons_zero, List.set_cons_succ]
              first | (refine Wk.skip (m := 9) (k := 22) rfl (by rfl) ?_) | (refine Wk.step (m := 9) (k := 22) (v := _) rfl (by rfl) (fun wv hS => by obtain ⟨s0, s1, s2, s3, s4, s5, s6, s7, s8, s9, s10, s11, s12, s13⟩ := hS; go_simp; try with_reducible rfl) ?_)
              try simp only [Act.put, List.getElem_toArray, List.getElem_cons_succ, List.getElem_cons_zero, List.setIfInBounds_toArray, List.set_cons_zero, List.set_cons_succ]
              first | (refine Wk.skip (m := 8) (k := 23) rfl (by rfl) ?_) | (refine Wk.step (m := 8) (k := 23) (v := _) rfl (by rfl) (fun wv hS => by obtain ⟨s0, s1, s2, s3, s4, s5, s6, s7, s8, s9, s10, s11, s12, s13⟩ := hS; go_simp; try with_reducible rfl) ?_)
              try simp only [Act.put, List.getElem_toArray, List.getElem_cons_succ, List.getElem_cons_zero, List.setIfInBounds_toArray, List.set_cons_zero, List.set_cons_succ]
              first | (refine Wk.skip (m := 7) (k := 24) rfl (by rfl) ?_) | (refine Wk.step (m := 7) (k := 24) (v := _) rfl (by rfl) (fun wv hS => by obtain ⟨s0, s1, s2, s3, s4, s5, s6, s7, s8, s9, s10, s11, s12, s13⟩ := hS; go_simp; try with_reducible rfl) ?_)
              try simp only [Act.put, List.getElem_toArray, List.getElem_cons_succ, List.getElem_cons_zero, List.setIfInBounds_toArray, List.set_cons_zero, List.set_cons_succ]
              first | (refine Wk.skip (m := 6) (k := 25) rfl (by rfl) ?_) | (refine Wk.step (m := 6) (k := 25) (v := _) rfl (by rfl) (fun wv hS => by obtain ⟨s0, s1, s2, s3, s4, s5, s6, s7, s8, s9, s10, s11, s12, s13⟩ := hS; go_simp; try with_reducible rfl) ?_)
              try simp only [Act.put, List.getElem_toArray, List.getElem_cons_succ, List.getElem_cons_zero, List.setIfInBounds_toArray, List.set_cons_zero, List.set_cons_succ]
              first | (refine Wk.skip (m := 5) (k := 26) rfl (by rfl) ?_) | (refine Wk.step (m := 5) (k := 26) (v := _) rfl (by rfl) (fun wv hS => by obtain ⟨s0, s1, s2, s3, s4, s5, s6, s7, s8, s9, s10, s11, s12, s13⟩ := hS; go_simp; try with_reducible rfl) ?_)
              try simp only [Act.put, List.getElem_toArray, List.getElem_cons_succ, List.getElem_cons_zero, List.setIfInBounds_toArray, List.set_cons_zero, List.set_cons_succ]
              first | (refine Wk.skip (m := 4) (k := 27) rfl (by rfl) ?_) | (refine Wk.step (m := 4) (k := 27) (v := _) rfl (by rfl) (fun wv hS => by obtain ⟨s0, s1, s2, s3, s4, s5, s6, s7, s8, s9, s10, s11, s12, s13⟩ := hS; go_simp; try with_reducible rfl) ?_)
              try simp only [Act.put, List.getElem_toArray, List.getElem_cons_succ, List.getElem_cons_zero, List.setIfInBounds_toArray, List.set_cons_zero, List.set_cons_succ]
              first | (refine Wk.skip (m := 3) (k := 28) rfl (by rfl) ?_) | (refine Wk.step (m := 3) (k := 28) (v := _) rfl (by rfl) (fun wv hS => by obtain ⟨s0, s1, s2, s3, s4, s5, s6, s7, s8, s9, s10, s11, s12, s13⟩ := hS; go_simp; try with_reducible rfl) ?_)
              try simp only [Act.put, List.getElem_toArray, List.getElem_cons_succ, List.getElem_cons_zero, List.setIfInBounds_toArray, List.set_cons_zero, List.set_cons_succ]
              first | (refine Wk.skip (m := 2) (k := 29) rfl (by rfl) ?_) | (refine Wk.step (m := 2) (k := 29) (v := _) rfl (by rfl) (fun wv hS => by obtain ⟨s0, s1, s2, s3, s4, s5, s6, s7, s8, s9, s10, s11, s12, s13⟩ := hS; go_simp; try with_reducible rfl) ?_)
              try simp only [Act.put, List.getElem_toArray, List.getElem_cons_succ, List.getElem_cons_zero, List.setIfInBounds_toArray, List.set_cons_zero, List.set_cons_succ]
              first | (refine Wk.skip (m := 1) (k := 30) rfl (by rfl) ?_) | (refine Wk.step (m := 1) (k := 30) (v := _) rfl (by rfl) (fun wv hS => by obtain ⟨s0, s1, s2, s3, s4, s5, s6, s7, s8, s9, s10, s11, s12, s13⟩ := hS; go_simp; try with_reducible rfl) ?_)
              try simp only [Act.put, List.getElem_toArray, List.getElem_cons_succ, List.getElem_cons_zero, List.setIfInBounds_toArray, List.set_cons_zero, List.set_cons_succ]
              first | (refine Wk.skip (m := 0) (k := 31) rfl (by rfl) ?_) | (refine Wk.step (m := 0) (k := 31) (v := _) rfl (by rfl) (fun wv hS => by obtain ⟨s0, s1, s2, s3, s4, s5, s6, s7, s8, s9, s10, s11, s12, s13⟩ := hS; go_simp; try with_reducible rfl) ?_)
              try simp only [Act.put, List.getElem_toArray, List.getElem_cons_succ, List.getElem_cons_zero, List.setIfInBounds_toArray, List.set_cons_zero, List.set_cons_succ]
              refine Wk.done fun wF hF => ?_
              clear k0 k1 j0 d0 d1 d2 d3 q0 q1 q2 q3 u0 v0
              obtain ⟨mF, k0, k1, j0, d0, d1, d2, d3, q0, q1, q2, q3, u0, v0⟩ := hF
              go_wp2_with fail
              go_ret
              exact ⟨retB (by rw [HR.out, HE.out]), (MY.trans mF)⟩
      · obtain rfl : k = n := by omega
        go_wp2_with fail
        go_ret
        exact ⟨retB (by rw [HR.out, hS.out]), hM'⟩

end Go.Proofs.YtifhhfndoifbhaaGreat
