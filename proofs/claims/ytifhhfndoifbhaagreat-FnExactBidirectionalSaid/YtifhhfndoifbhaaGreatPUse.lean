
/- PathUsable of both sides. -/
import Derived.Test.YtifhhfndoifbhaaGreatDiff
import Derived.Test.YtifhhfndoifbhaaGreatVPath
import Derived.Test.YtifhhfndoifbhaaGreatSeen
namespace Go.Proofs.YtifhhfndoifbhaaGreat
open Go.ChangeShapes Go.WideShapes Go.ChangeAt Go.RowKit
set_option linter.unusedVariables false
def hopAt (t : Int) (hs : List THop) (k : Nat) : Bool := decide (t ≤ (hs.getD k default).exp)
def partAt (t : Int) (x : TPathPart) : Bool := decide (x.ts ≤ t) && allN (hopAt t x.hops) x.hops.length
def pathAt (t : Int) (ps : List TPathPart) (n : Nat) : Bool := allN (fun k => partAt t (ps.getD k default)) n
def useB (n0 : Nat) (zs : List TAS) (zl : List TLink) (n1 : Nat) (ps : List TPathPart) (n : Nat) (t : Int) : Bool := simB n0 zl n1 ps n && allTo (vpT zs n0) ps n && pathAt t ps n
set_option maxRecDepth 100000 in
set_option maxHeartbeats 4000000 in
theorem specHVA (x0 x1 x2 x3 x4 t : Int) (w : World) : Calls Tryz.prog 20 #[.agg #[.int .i64 x0, .int .i64 x1, .int .i64 x2, .int .i64 x3, .int .i64 x4], .int .i64 t] w fun e w' => e = .returned (.bool (decide (t ≤ x3))) ∧ Mk0 w w' := by
  have M0 := Mk.alloc w (Obj.cells #[Value.int .i64 x0, Value.int .i64 x1, Value.int .i64 x2, Value.int .i64 x3, Value.int .i64 x4] 53)
  go_enter Tryz.func20, Tryz.ntmps20
  go_wp2_with fail
  go_ret
  exact ⟨rfl, M0⟩

set_option maxRecDepth 100000 in
set_option maxHeartbeats 4000000 in
theorem implHVA (x0 x1 x2 x3 x4 t : Int) (w : World) : Calls Tryz.prog 40 #[.agg #[.int .i64 x0, .int .i64 x1, .int .i64 x2, .int .i64 x3, .int .i64 x4], .int .i64 t] w fun e w' => e = .returned (.bool (decide (t ≤ x3))) ∧ Mk0 w w' := by
  have M0 := Mk.alloc w (Obj.cells #[Value.int .i64 x0, Value.int .i64 x1, Value.int .i64 x2, Value.int .i64 x3, Value.int .i64 x4] 53)
  go_enter Tryz.func40, Tryz.ntmps40
  go_wp2_with fail
  go_ret
  exact ⟨rfl, M0⟩

set_option maxRecDepth 100000 in
set_option maxHeartbeats 4000000 in
theorem implPAt (a : Option Addr) (n c B' : Nat) (ps : List TPathPart) (t : Int) (w : World) (h : HasPathPart w B' a n ps) (hB' : B' ≤ w.heap.size) (hn : szPathPart ps n ≤ 1048576) :
    Calls Tryz.prog 24 #[.agg #[.slice a n c], .int .i64 t] w fun e w' => e = .returned (.bool (pathAt t ps n)) ∧ Mk0 w w' := by
  have hnn := szPathPart_n ps n
  have M0 := Mk.alloc w (Obj.cells #[Value.slice a n c] 39)
  have j0 : (w.alloc (Obj.cells #[Value.slice a n c] 39)).cell? ⟨w.heap.size, 0, none⟩ = some (.slice a n c) := by simp [go_sem]
  go_enter Tryz.func24, Tryz.ntmps24
  go_wp2_with fail
  generalize (w.alloc (Obj.cells #[Value.slice a n c] 39)) = WW at *
  go_loopw [4, 12] (fun r i wr => r = .bool false ∧ ∃ k : Nat, k ≤ n ∧ i = .int .i64 k ∧ Hid (allN (fun k => partAt t (ps.getD k default)) k = true) ∧ Mk0 WW wr) (fun _ i _ => n - (intOf i).toNat)
  case atStart => exact ⟨rfl, 0, Nat.zero_le _, rfl, rfl, Mk.refl _ _ _⟩
  case round =>
    obtain ⟨rfl, k, hk, rfl, hS, hM⟩ := hrel
    replace j0 := hM.cellAt j0
    have hM' := M0.trans hM
    by_cases hlt : k < n
    · have i1 : (0 : Int) ≤ (k : Int) := by omega
      have i2 : (k : Int) < (n : Int) := by omega
      obtain ⟨b, off, x, rfl, hb2, hx, a3, n3, c3, d0, d1, d2, d3, r3, m3, t3, z3⟩ := HasPathPart.at _ _ _ _ _ _ (h.mk hM' hB' (.inr (Nat.le_refl _))) hlt
      have hs3 : n3 ≤ 1048576 := by have HS := szPathPart_at ps hlt; rw [← hx.out] at HS; unfold sePathPart at HS; have := r3.1; omega
      have hbr := World.block_lt_of_cell? _ _ d0
      simp only at hbr
      have hB1 := Nat.le_trans hB' hM'.size
      have HP := Lib.hid (show partAt t (ps.getD k default) = (decide (x.ts ≤ t) && allN (hopAt t x.hops) n3) by rw [← hx.out]; unfold partAt; rw [r3.1])
      by_cases ht : x.ts ≤ t
      · have g2 : decide (t < x.ts) = false := by simpa using ht
        have HQ0 := Lib.hid (show partAt t (ps.getD k default) = allN (hopAt t x.hops) n3 by rw [HP.out, decide_eq_true ht]; rfl)
        have MX := Mk.alloc wr (Obj.cells #[Value.int .i64 x.kind, Value.int .i64 x.ts, Value.int .i64 x.beta, Value.slice a3 n3 c3] 50)
        have hB2 := Nat.le_trans hB1 MX.size
        replace r3 := r3.mk MX hB1 (.inr (Nat.le_refl _))
        replace hM := hM.trans MX
        replace hM' := hM'.trans MX
        replace j0 := MX.cellAt j0
        go_wp2_with fail
        go_loopw [4, 23] (fun r i wq => r = .bool false ∧ ∃ j : Nat, j ≤ n3 ∧ i = .int .i64 j ∧ Hid (allN (hopAt t x.hops) j = true) ∧ Mk0 (wr.alloc (Obj.cells #[Value.int .i64 x.kind, Value.int .i64 x.ts, Value.int .i64 x.beta, Value.slice a3 n3 c3] 50)) wq) (fun _ i _ => n3 - (intOf i).toNat)
        case atStart => exact ⟨rfl, 0, Nat.zero_le _, rfl, rfl, Mk.refl _ _ _⟩
        case round =>
          obtain ⟨rfl, j, hj, rfl, hT, hQ⟩ := hrel
          replace j0 := hQ.cellAt j0
          have hQ' := hM'.trans hQ
          by_cases hjt : j < n3
          · have j1 : (0 : Int) ≤ (j : Int) := by omega
            have j2 : (j : Int) < (n3 : Int) := by omega
            obtain ⟨b2, off2, q, rfl, hb3, hq, e0, e1, e2, e3, e4⟩ := HasHop.at _ _ _ _ _ _ (r3.mk hQ hB2 (.inr (Nat.le_refl _))) hjt
            have hbr3 := World.block_lt_of_cell? _ _ e0
            simp only at hbr3
            have HH := Lib.hid (show hopAt t x.hops j = decide (t ≤ q.exp) by unfold hopAt; rw [← hq.out])
            cases hv : decide (t ≤ q.exp)
            · have HV := Lib.hid hv
              clear hv
              have HN := Lib.hid (allN_stop (p := fun k => partAt t (ps.getD k default)) (k := k) (n := n) (by show partAt t (ps.getD k default) = false; rw [HQ0.out]; exact allN_stop (by rw [HH.out, HV.out]) hjt) hlt)
              have MY := Mk.alloc wr (Obj.cells #[Value.int .i64 q.nd, Value.int .i64 q.ing, Value.int .i64 q.eg, Value.int .i64 q.exp, Value.int .i64 q.mac] 53)
              go_wp2_with fail
              refine (implHVA q.nd q.ing q.eg q.exp q.mac t _).mono ?_
              rintro e w4 ⟨he, m4⟩
              rw [HV.out] at he
              subst he
              replace m4 := MY.trans m4
              go_wp2_with fail
              go_ret
              exact ⟨retB HN.out.symm, hQ'.trans m4⟩
            · have HV := Lib.hid hv
              clear hv
              have HG := Lib.hid (allN_go hT.out (by rw [HH.out, HV.out]))
              have MY := Mk.alloc wr (Obj.cells #[Value.int .i64 q.nd, Value.int .i64 q.ing, Value.int .i64 q.eg, Value.int .i64 q.exp, Value.int .i64 q.mac] 53)
              go_wp2_with fail
              refine (implHVA q.nd q.ing q.eg q.exp q.mac t _).mono ?_
              rintro e w4 ⟨he, m4⟩
              rw [HV.out] at he
              subst he
              replace m4 := MY.trans m4
              go_wp2_with fail
              go_roundw
              case rel => exact ⟨rfl, j + 1, by omega, by go_num, HG.out, hQ.trans m4⟩
              case measure => simp [intOf]; omega
          · obtain rfl : j = n3 := by omega
            have HG := Lib.hid (allN_go (p := fun k => partAt t (ps.getD k default)) hS.out (by show partAt t (ps.getD k default) = true; rw [HQ0.out]; exact hT.out))
            go_wp2_with fail
            go_roundw
            case rel => exact ⟨rfl, k + 1, by omega, by go_num, HG.out, hM.trans hQ⟩
            case measure => simp [intOf]; omega
      · have g1 : t < x.ts := by omega
        have g2 : decide (t < x.ts) = true := by simpa using g1
        have HN := Lib.hid (allN_stop (p := fun k => partAt t (ps.getD k default)) (k := k) (n := n) (by show partAt t (ps.getD k default) = false; rw [HP.out, decide_eq_false ht]; rfl) hlt)
        clear ht
        go_wp2_with fail
        go_ret
        exact ⟨retB HN.out.symm, hM'.trans (Mk.alloc _ _)⟩
    · obtain rfl : k = n := by omega
      go_wp2_with fail
      go_ret
      exact ⟨retB hS.out.symm, hM'⟩

set_option maxRecDepth 100000 in
set_option maxHeartbeats 4000000 in
theorem implPUse (a0 a1 : Option Addr) (n0 c0 n1 c1 B : Nat) (zs : List TAS) (zl : List TLink) (a : Option Addr) (n c B' : Nat) (ps : List TPathPart) (t : Int) (w : World) (hz : HasAS w B a0 n0 zs) (hl : HasLink w B a1 n1 zl) (hB : B ≤ w.heap.size) (hn0 : n0 ≤ 1048576) (hn1 : n1 ≤ 1048576) (hzf : ∀ y ∈ zs, TAS.fits y) (h : HasPathPart w B' a n ps) (hB' : B' ≤ w.heap.size) (hn : szPathPart ps n ≤ 1048576) (hf : ∀ y ∈ ps, TPathPart.fits y) :
    Calls Tryz.prog 10 #[.agg #[.slice a0 n0 c0, .slice a1 n1 c1], .agg #[.slice a n c], .int .i64 t] w fun e w' => e = .returned (.bool (useB n0 zs zl n1 ps n t)) ∧ Mk0 w w' := by
  have hnn := szPathPart_n ps n
  have M0 := (Mk.alloc w (Obj.cells #[Value.slice a0 n0 c0, Value.slice a1 n1 c1] 35)).new (Obj.cells #[Value.slice a n c] 39)
  have k0 : ((w.alloc (Obj.cells #[Value.slice a0 n0 c0, Value.slice a1 n1 c1] 35)).alloc (Obj.cells #[Value.slice a n c] 39)).cell? ⟨w.heap.size, 0, none⟩ = some (.slice a0 n0 c0) := by simp [go_sem]
  have k1 : ((w.alloc (Obj.cells #[Value.slice a0 n0 c0, Value.slice a1 n1 c1] 35)).alloc (Obj.cells #[Value.slice a n c] 39)).cell? ⟨w.heap.size, 1, none⟩ = some (.slice a1 n1 c1) := by simp [go_sem]
  have j0 : ((w.alloc (Obj.cells #[Value.slice a0 n0 c0, Value.slice a1 n1 c1] 35)).alloc (Obj.cells #[Value.slice a n c] 39)).cell? ⟨w.heap.size + 1, 0, none⟩ = some (.slice a n c) := by simp [go_sem]
  have HZ := Lib.hid hzf
  have HF := Lib.hid hf
  clear hzf hf
  go_enter Tryz.func10, Tryz.ntmps10
  go_wp2_with fail
  generalize ((w.alloc (Obj.cells #[Value.slice a0 n0 c0, Value.slice a1 n1 c1] 35)).alloc (Obj.cells #[Value.slice a n c] 39)) = WW at *
  refine (implPAt a n c B' ps t _ (h.mk M0 hB' (.inr (Nat.le_refl _))) (Nat.le_trans hB' M0.size) hn).mono ?_
  rintro e w2 ⟨he, m2⟩
  have M2 := M0.trans m2
  cases q1 : pathAt t ps n
  · have HR := Lib.hid (show useB n0 zs zl n1 ps n t = false by unfold useB; rw [q1, Bool.and_false])
    rw [q1] at he
    subst he
    clear q1
    go_wp2_with fail
    go_ret
    exact ⟨retB HR.out.symm, M2⟩
  · rw [q1] at he
    subst he
    replace k0 := m2.cellAt k0
    replace k1 := m2.cellAt k1
    replace j0 := m2.cellAt j0
    go_wp2_with fail
    refine (implSim a0 a1 n0 c0 n1 c1 B zl a n c B' ps _ (hl.mk M2 hB (.inr (Nat.le_refl _))) (Nat.le_trans hB M2.size) hn0 hn1 (h.mk M2 hB' (.inr (Nat.le_refl _))) (Nat.le_trans hB' M2.size) hn).mono ?_
    rintro e w3 ⟨he, m3⟩
    have M3 := M2.trans m3
    cases q2 : simB n0 zl n1 ps n
    · have HR := Lib.hid (show useB n0 zs zl n1 ps n t = false by unfold useB; rw [q2]; rfl)
      rw [q2] at he
      subst he
      clear q1 q2
      go_wp2_with fail
      go_ret
      exact ⟨retB HR.out.symm, M3⟩
    · have HR := Lib.hid (show useB n0 zs zl n1 ps n t = allTo (vpT zs n0) ps n by unfold useB; rw [q1, q2, Bool.and_true]; rfl)
      rw [q2] at he
      subst he
      clear q1 q2
      replace k0 := m3.cellAt k0
      replace k1 := m3.cellAt k1
      replace j0 := m3.cellAt j0
      go_wp2_with fail
      refine (implVPath a0 a1 n0 c0 n1 c1 B zs a n c B' ps _ (hz.mk M3 hB (.inr (Nat.le_refl _))) (h.mk M3 hB' (.inr (Nat.le_refl _))) (Nat.le_trans hB M3.size) (Nat.le_trans hB' M3.size) hn0 hn HZ.out HF.out).mono ?_
      rintro e w4 ⟨rfl, m4⟩
      go_wp2_with fail
      go_ret
      exact ⟨retB HR.out.symm, M3.trans m4⟩

set_option maxRecDepth 100000 in
set_option maxHeartbeats 4000000 in
theorem specPUse (a0 a1 : Option Addr) (n0 c0 n1 c1 B : Nat) (zs : List TAS) (zl : List TLink) (a : Option Addr) (n c B' : Nat) (ps : List TPathPart) (t : Int) (w : World) (hz : HasAS w B a0 n0 zs) (hl : HasLink w B a1 n1 zl) (hB : B ≤ w.heap.size) (hn0 : n0 ≤ 1048576) (hn1 : n1 ≤ 1048576) (hzf : ∀ y ∈ zs, TAS.fits y) (h : HasPathPart w B' a n ps) (hB' : B' ≤ w.heap.size) (hn : szPathPart ps n ≤ 1048576) (hf : ∀ y ∈ ps, TPathPart.fits y) :
    Calls Tryz.prog 7 #[.agg #[.slice a0 n0 c0, .slice a1 n1 c1], .agg #[.slice a n c], .int .i64 t] w fun e w' => e = .returned (.bool (useB n0 zs zl n1 ps n t)) ∧ Mk0 w w' := by
  have hnn := szPathPart_n ps n
  have M0 := (Mk.alloc w (Obj.cells #[Value.slice a0 n0 c0, Value.slice a1 n1 c1] 35)).new (Obj.cells #[Value.slice a n c] 39)
  have k0 : ((w.alloc (Obj.cells #[Value.slice a0 n0 c0, Value.slice a1 n1 c1] 35)).alloc (Obj.cells #[Value.slice a n c] 39)).cell? ⟨w.heap.size, 0, none⟩ = some (.slice a0 n0 c0) := by simp [go_sem]
  have k1 : ((w.alloc (Obj.cells #[Value.slice a0 n0 c0, Value.slice a1 n1 c1] 35)).alloc (Obj.cells #[Value.slice a n c] 39)).cell? ⟨w.heap.size, 1, none⟩ = some (.slice a1 n1 c1) := by simp [go_sem]
  have j0 : ((w.alloc (Obj.cells #[Value.slice a0 n0 c0, Value.slice a1 n1 c1] 35)).alloc (Obj.cells #[Value.slice a n c] 39)).cell? ⟨w.heap.size + 1, 0, none⟩ = some (.slice a n c) := by simp [go_sem]
  have HZ := Lib.hid hzf
  have HF := Lib.hid hf
  clear hzf hf
  go_enter Tryz.func7, Tryz.ntmps7
  go_wp2_with fail
  generalize ((w.alloc (Obj.cells #[Value.slice a0 n0 c0, Value.slice a1 n1 c1] 35)).alloc (Obj.cells #[Value.slice a n c] 39)) = WW at *
  refine (specSim a0 a1 n0 c0 n1 c1 B zl a n c B' ps _ (hl.mk M0 hB (.inr (Nat.le_refl _))) (Nat.le_trans hB M0.size) hn0 hn1 (h.mk M0 hB' (.inr (Nat.le_refl _))) (Nat.le_trans hB' M0.size) hn).mono ?_
  rintro e w2 ⟨he, m2⟩
  have M2 := M0.trans m2
  cases q1 : simB n0 zl n1 ps n
  · have HR := Lib.hid (show useB n0 zs zl n1 ps n t = false by unfold useB; rw [q1]; rfl)
    rw [q1] at he
    subst he
    clear q1
    go_wp2_with fail
    go_ret
    exact ⟨retB HR.out.symm, M2⟩
  · rw [q1] at he
    subst he
    replace k0 := m2.cellAt k0
    replace k1 := m2.cellAt k1
    replace j0 := m2.cellAt j0
    go_wp2_with fail
    refine (specVPath a0 a1 n0 c0 n1 c1 B zs a n c B' ps _ (hz.mk M2 hB (.inr (Nat.le_refl _))) (h.mk M2 hB' (.inr (Nat.le_refl _))) (Nat.le_trans hB M2.size) (Nat.le_trans hB' M2.size) hn0 hn HZ.out HF.out).mono ?_
    rintro e w3 ⟨he, m3⟩
    have M3 := M2.trans m3
    cases q2 : allTo (vpT zs n0) ps n
    · have HR := Lib.hid (show useB n0 zs zl n1 ps n t = false by unfold useB; rw [q2, Bool.and_false]; rfl)
      rw [q2] at he
      subst he
      clear q1 q2
      go_wp2_with fail
      go_ret
      exact ⟨retB HR.out.symm, M3⟩
    · have HR := Lib.hid (show useB n0 zs zl n1 ps n t = allN (fun k => partAt t (ps.getD k default)) n by unfold useB; rw [q1, q2]; rfl)
      rw [q2] at he
      subst he
      clear q1 q2
      replace k0 := m3.cellAt k0
      replace k1 := m3.cellAt k1
      replace j0 := m3.cellAt j0
      clear k0 k1 M0 m2 m3 M2
      go_wp2_with fail
      go_loopw [6, 7] (fun r i wr => r = .bool false ∧ ∃ k : Nat, k ≤ n ∧ i = .int .i64 k ∧ Hid (allN (fun k => partAt t (ps.getD k default)) k = true) ∧ Mk0 w3 wr) (fun _ i _ => n - (intOf i).toNat)
      case atStart => exact ⟨rfl, 0, Nat.zero_le _, rfl, rfl, Mk.refl _ _ _⟩
      case round =>
        obtain ⟨rfl, k, hk, rfl, hS, hM⟩ := hrel
        replace j0 := hM.cellAt j0
        have hM' := M3.trans hM
        by_cases hlt : k < n
        · have i1 : (0 : Int) ≤ (k : Int) := by omega
          have i2 : (k : Int) < (n : Int) := by omega
          obtain ⟨b, off, x, rfl, hb2, hx, a3, n3, c3, d0, d1, d2, d3, r3, m3, t3, z3⟩ := HasPathPart.at _ _ _ _ _ _ (h.mk hM' hB' (.inr (Nat.le_refl _))) hlt
          have hs3 : n3 ≤ 1048576 := by have HS := szPathPart_at ps hlt; rw [← hx.out] at HS; unfold sePathPart at HS; have := r3.1; omega
          have hbr := World.block_lt_of_cell? _ _ d0
          simp only at hbr
          have hB1 := Nat.le_trans hB' hM'.size
          have HP := Lib.hid (show partAt t (ps.getD k default) = (decide (x.ts ≤ t) && allN (hopAt t x.hops) n3) by rw [← hx.out]; unfold partAt; rw [r3.1])
          by_cases ht : x.ts ≤ t
          · have g2 : decide (t < x.ts) = false := by simpa using ht
            have HQ0 := Lib.hid (show partAt t (ps.getD k default) = allN (hopAt t x.hops) n3 by rw [HP.out, decide_eq_true ht]; rfl)
            have hB2 := hB1
            go_wp2_with fail
            go_loopw [6, 8] (fun r i wq => r = .bool false ∧ ∃ j : Nat, j ≤ n3 ∧ i = .int .i64 j ∧ Hid (allN (hopAt t x.hops) j = true) ∧ Mk0 wr wq) (fun _ i _ => n3 - (intOf i).toNat)
            case atStart => exact ⟨rfl, 0, Nat.zero_le _, rfl, rfl, Mk.refl _ _ _⟩
            case round =>
              obtain ⟨rfl, j, hj, rfl, hT, hQ⟩ := hrel
              replace j0 := hQ.cellAt j0
              replace d0 := hQ.cellAt d0
              replace d3 := hQ.cellAt d3
              have hbr2 := World.block_lt_of_cell? _ _ d0
              simp only at hbr2
              have hQ' := hM'.trans hQ
              by_cases hjt : j < n3
              · have j1 : (0 : Int) ≤ (j : Int) := by omega
                have j2 : (j : Int) < (n3 : Int) := by omega
                obtain ⟨b2, off2, q, rfl, hb3, hq, e0, e1, e2, e3, e4⟩ := HasHop.at _ _ _ _ _ _ (r3.mk hQ hB2 (.inr (Nat.le_refl _))) hjt
                have hbr3 := World.block_lt_of_cell? _ _ e0
                simp only at hbr3
                have HH := Lib.hid (show hopAt t x.hops j = decide (t ≤ q.exp) by unfold hopAt; rw [← hq.out])
                cases hv : decide (t ≤ q.exp)
                · have HV := Lib.hid hv
                  clear hv
                  have HN := Lib.hid (allN_stop (p := fun k => partAt t (ps.getD k default)) (k := k) (n := n) (by show partAt t (ps.getD k default) = false; rw [HQ0.out]; exact allN_stop (by rw [HH.out, HV.out]) hjt) hlt)
                  go_wp2_with fail
                  refine (specHVA q.nd q.ing q.eg q.exp q.mac t _).mono ?_
                  rintro e w4 ⟨he, m4⟩
                  rw [HV.out] at he
                  subst he
                  go_wp2_with fail
                  go_ret
                  exact ⟨retB (HR.out.trans HN.out).symm, hQ'.trans m4⟩
                · have HV := Lib.hid hv
                  clear hv
                  have HG := Lib.hid (allN_go hT.out (by rw [HH.out, HV.out]))
                  go_wp2_with fail
                  refine (specHVA q.nd q.ing q.eg q.exp q.mac t _).mono ?_
                  rintro e w4 ⟨he, m4⟩
                  rw [HV.out] at he
                  subst he
                  go_wp2_with fail
                  go_roundw
                  case rel => exact ⟨rfl, j + 1, by omega, by go_num, HG.out, hQ.trans m4⟩
                  case measure => simp [intOf]; omega
              · obtain rfl : j = n3 := by omega
                have HG := Lib.hid (allN_go (p := fun k => partAt t (ps.getD k default)) hS.out (by show partAt t (ps.getD k default) = true; rw [HQ0.out]; exact hT.out))
                go_wp2_with fail
                go_roundw
                case rel => exact ⟨rfl, k + 1, by omega, by go_num, HG.out, hM.trans hQ⟩
                case measure => simp [intOf]; omega
          · have g1 : t < x.ts := by omega
            have g2 : decide (t < x.ts) = true := by simpa using g1
            have HN := Lib.hid (allN_stop (p := fun k => partAt t (ps.getD k default)) (k := k) (n := n) (by show partAt t (ps.getD k default) = false; rw [HP.out, decide_eq_false ht]; rfl) hlt)
            clear ht
            go_wp2_with fail
            go_ret
            exact ⟨retB (HR.out.trans HN.out).symm, hM'⟩
        · obtain rfl : k = n := by omega
          go_wp2_with fail
          go_ret
          exact ⟨retB (HR.out.trans hS.out).symm, hM'⟩

end Go.Proofs.YtifhhfndoifbhaaGreat
