
/- CanExtend of both sides. -/
import Derived.Test.YtefjbnbibmiccaaGreatDoorVsegM
namespace Go.Proofs.YtefjbnbibmiccaaGreatDoor
open Go.ChangeShapes Go.WideShapes Go.ChangeAt Go.RowKit
set_option linter.unusedVariables false
set_option maxRecDepth 100000 in
set_option maxHeartbeats 4000000 in
theorem specCExt (a0 a1 : Option Addr) (n0 c0 n1 c1 B : Nat) (zA : List TAS) (zl : List TLink) (x0 x1 : Int) (a : Option Addr) (n c B' : Nat) (hs : List THop) (r i : Int) (w : World) (hA : HasAS w B a0 n0 zA) (hl : HasLink w B a1 n1 zl) (hB : B ≤ w.heap.size) (hn0 : n0 ≤ 1048576) (hn1 : n1 ≤ 1048576) (h : HasHop w B' a n hs) (hB' : B' ≤ w.heap.size) (hn : n ≤ 1048576) (hz : ∀ y ∈ zA, TAS.fits y) (ht : (Lit.int .i64 x0).wf = true) (hb : (Lit.int .i64 x1).wf = true) (hf : ∀ y ∈ hs, THop.fits y) :
    Calls Tryz.prog 16 #[.agg #[.slice a0 n0 c0, .slice a1 n1 c1], .agg #[.int .i64 x0, .int .i64 x1, .slice a n c], .int .i64 r, .int .i64 i] w fun e w' => e = .returned (.bool (ceB n0 zA zl n1 x0 x1 hs n r i)) ∧ Mk0 w w' := by
  have M0 := (Mk.alloc w (Obj.cells #[Value.slice a0 n0 c0, Value.slice a1 n1 c1] 35)).new (Obj.cells #[Value.int .i64 x0, Value.int .i64 x1, Value.slice a n c] 39)
  have k0 : ((w.alloc (Obj.cells #[Value.slice a0 n0 c0, Value.slice a1 n1 c1] 35)).alloc (Obj.cells #[Value.int .i64 x0, Value.int .i64 x1, Value.slice a n c] 39)).cell? ⟨w.heap.size, 0, none⟩ = some (.slice a0 n0 c0) := by simp [go_sem]
  have k1 : ((w.alloc (Obj.cells #[Value.slice a0 n0 c0, Value.slice a1 n1 c1] 35)).alloc (Obj.cells #[Value.int .i64 x0, Value.int .i64 x1, Value.slice a n c] 39)).cell? ⟨w.heap.size, 1, none⟩ = some (.slice a1 n1 c1) := by simp [go_sem]
  have j0 : ((w.alloc (Obj.cells #[Value.slice a0 n0 c0, Value.slice a1 n1 c1] 35)).alloc (Obj.cells #[Value.int .i64 x0, Value.int .i64 x1, Value.slice a n c] 39)).cell? ⟨w.heap.size + 1, 0, none⟩ = some (.int .i64 x0) := by simp [go_sem]
  have j1 : ((w.alloc (Obj.cells #[Value.slice a0 n0 c0, Value.slice a1 n1 c1] 35)).alloc (Obj.cells #[Value.int .i64 x0, Value.int .i64 x1, Value.slice a n c] 39)).cell? ⟨w.heap.size + 1, 1, none⟩ = some (.int .i64 x1) := by simp [go_sem]
  have j2 : ((w.alloc (Obj.cells #[Value.slice a0 n0 c0, Value.slice a1 n1 c1] 35)).alloc (Obj.cells #[Value.int .i64 x0, Value.int .i64 x1, Value.slice a n c] 39)).cell? ⟨w.heap.size + 1, 2, none⟩ = some (.slice a n c) := by simp [go_sem]
  have HZ := Lib.hid hz
  have HF := Lib.hid hf
  have HT := Lib.hid ht
  have HBT := Lib.hid hb
  clear hz hf ht hb
  go_enter Tryz.func16, Tryz.ntmps16
  go_wp2_with fail
  generalize ((w.alloc (Obj.cells #[Value.slice a0 n0 c0, Value.slice a1 n1 c1] 35)).alloc (Obj.cells #[Value.int .i64 x0, Value.int .i64 x1, Value.slice a n c] 39)) = WW at *
  refine (specIsAS a0 a1 n0 c0 n1 c1 r _ hn0).mono ?_
  rintro e w2 ⟨he, m2⟩
  have M2 := M0.trans m2
  cases q1 : isAsB n0 r
  · have HR := Lib.hid (show ceB n0 zA zl n1 x0 x1 hs n r i = false by unfold ceB; rw [q1]; first | done | rfl | simp)
    rw [q1] at he
    subst he
    clear q1
    go_wp2_with fail
    go_ret
    exact ⟨retB HR.out.symm, M2⟩
  · have Q1 := Lib.hid q1
    rw [q1] at he
    subst he
    clear q1
    replace k0 := m2.cellAt k0
    replace k1 := m2.cellAt k1
    replace j0 := m2.cellAt j0
    replace j1 := m2.cellAt j1
    replace j2 := m2.cellAt j2
    go_wp2_with fail
    refine (specVSeg a0 a1 n0 c0 n1 c1 B zA zl x0 x1 a n c B' hs _ (hA.mk M2 hB (.inr (Nat.le_refl _))) (hl.mk M2 hB (.inr (Nat.le_refl _))) (Nat.le_trans hB M2.size) hn0 hn1 (h.mk M2 hB' (.inr (Nat.le_refl _))) (Nat.le_trans hB' M2.size) hn HZ.out HT.out HBT.out HF.out).mono ?_
    rintro e w3 ⟨he, m3⟩
    have M3 := M2.trans m3
    cases q2 : vsB n0 zA zl n1 x0 x1 hs n
    · have HR := Lib.hid (show ceB n0 zA zl n1 x0 x1 hs n r i = false by unfold ceB; rw [Q1.out, q2]; first | done | rfl | simp)
      rw [q2] at he
      subst he
      clear q2
      go_wp2_with fail
      go_ret
      exact ⟨retB HR.out.symm, M3⟩
    · have Q2 := Lib.hid q2
      have hnb := vsB_n q2
      rw [q2] at he
      subst he
      clear q2
      replace k0 := m3.cellAt k0
      replace k1 := m3.cellAt k1
      replace j0 := m3.cellAt j0
      replace j1 := m3.cellAt j1
      replace j2 := m3.cellAt j2
      go_wp2_with fail
      refine (specTermd x0 x1 a n c B' hs _ (h.mk M3 hB' (.inr (Nat.le_refl _))) (Nat.le_trans hB' M3.size) hn).mono ?_
      rintro e w4 ⟨he, m4⟩
      have M4 := M3.trans m4
      cases q3 : segEnds hs n
      · have Q3 := Lib.hid q3
        rw [q3] at he
        subst he
        clear q3
        replace k0 := m4.cellAt k0
        replace k1 := m4.cellAt k1
        replace j0 := m4.cellAt j0
        replace j1 := m4.cellAt j1
        replace j2 := m4.cellAt j2
        go_wp2_with fail
        refine (specASes x0 x1 a n c B' hs _ (h.mk M4 hB' (.inr (Nat.le_refl _))) (Nat.le_trans hB' M4.size) hn).mono ?_
        rintro e w5 ⟨A, N, C, rfl, hA2, hO, bb⟩
        have m5 := Mk.of_below bb
        have M5 := M4.trans m5
        replace k0 := m5.cellAt k0
        replace k1 := m5.cellAt k1
        replace j0 := m5.cellAt j0
        replace j1 := m5.cellAt j1
        replace j2 := m5.cellAt j2
        obtain rfl : n = N := (colN_len _ _ _).symm.trans hO.1
        have hH := hO.has
        go_wp2_with fail
        refine (specHas9 r A n C _ (colN THop.nd hs n) _ hH (by omega)).mono ?_
        rintro e w' ⟨he, rfl⟩
        have QQ := Lib.hid (show inUp (nthI (colN THop.nd hs n)) r n = inUp (fun j => (colN THop.nd hs n).getD j 0) r n from rfl)
        cases q4 : inUp (fun j => (colN THop.nd hs n).getD j 0) r n
        rotate_left
        · have Q4 := Lib.hid (QQ.out.trans q4)
          have HR := Lib.hid (show ceB n0 zA zl n1 x0 x1 hs n r i = false by unfold ceB; rw [Q1.out, Q2.out, Q3.out, Q4.out]; first | done | rfl | simp)
          rw [q4] at he
          subst he
          clear q4
          go_wp2_with fail
          go_ret
          exact ⟨retB HR.out.symm, M5⟩
        · have Q4 := Lib.hid (QQ.out.trans q4)
          rw [q4] at he
          subst he
          clear q4 hO hH bb
          obtain ⟨m, rfl⟩ : ∃ m, n = m + 1 := ⟨n - 1, by omega⟩
          obtain ⟨b, off, x, rfl, hb, hx, d0, d1, d2, d3, d4⟩ := HasHop.at _ _ _ _ _ _ (h.mk M5 hB' (.inr (Nat.le_refl _))) (Nat.lt_succ_self m)
          have hbr := World.block_lt_of_cell? _ _ d0
          simp only at hbr
          have HR := Lib.hid (show ceB n0 zA zl n1 x0 x1 hs (m + 1) r i = ((remote zl x.nd x.eg n1).1 == r && (remote zl x.nd x.eg n1).2 == i) by unfold ceB; rw [Q1.out, Q2.out, Q3.out, Q4.out, show m + 1 - 1 = m from rfl, ← hx.out]; simp)
          clear Q1 Q2 Q3 Q4 QQ
          have hwr : IntKind.i64.wrap (((m + 1 : Nat) : Int) - 1) = (m : Int) := by rw [IntKind.wrap_i64]; omega
          have i1 : (0 : Int) ≤ (m : Int) := by omega
          have i2 : (m : Int) < ((m + 1 : Nat) : Int) := by omega
          have MX := Mk.alloc w5 (Obj.cells #[Value.int .i64 x.nd, Value.int .i64 x.ing, Value.int .i64 x.eg, Value.int .i64 x.exp, Value.int .i64 x.mac] 67)
          have e0 : (w5.alloc (Obj.cells #[Value.int .i64 x.nd, Value.int .i64 x.ing, Value.int .i64 x.eg, Value.int .i64 x.exp, Value.int .i64 x.mac] 67)).cell? ⟨w5.heap.size, 0, none⟩ = some (.int .i64 x.nd) := by simp [go_sem]
          have e2 : (w5.alloc (Obj.cells #[Value.int .i64 x.nd, Value.int .i64 x.ing, Value.int .i64 x.eg, Value.int .i64 x.exp, Value.int .i64 x.mac] 67)).cell? ⟨w5.heap.size, 2, none⟩ = some (.int .i64 x.eg) := by simp [go_sem]
          replace k0 := MX.cellAt k0
          replace k1 := MX.cellAt k1
          have M6 := M5.trans MX
          go_wp2_with fail
          refine (specRemote a0 a1 n0 c0 n1 c1 B zl x.nd x.eg _ (hl.mk M6 hB (.inr (Nat.le_refl _))) (Nat.le_trans hB M6.size) hn1).mono ?_
          rintro e w6 ⟨he, mw6⟩
          have M7 := M6.trans mw6
          obtain ⟨u, hu⟩ : ∃ u, Hid (u = (remote zl x.nd x.eg n1).1) := ⟨_, Lib.hid rfl⟩
          obtain ⟨v, hv⟩ : ∃ v, Hid (v = (remote zl x.nd x.eg n1).2) := ⟨_, Lib.hid rfl⟩
          rw [← hu.out, ← hv.out] at he HR
          subst he
          cases q5 : (u == r)
          · rw [q5, Bool.false_and] at HR
            go_wp2_with fail
            go_ret
            exact ⟨retB HR.out.symm, M7⟩
          · rw [q5, Bool.true_and] at HR
            go_wp2_with fail
            go_ret
            exact ⟨retB HR.out.symm, M7⟩
      · have HR := Lib.hid (show ceB n0 zA zl n1 x0 x1 hs n r i = false by unfold ceB; rw [Q1.out, Q2.out, q3]; first | done | rfl | simp)
        rw [q3] at he
        subst he
        clear q3
        go_wp2_with fail
        go_ret
        exact ⟨retB HR.out.symm, M4⟩

set_option maxRecDepth 100000 in
set_option maxHeartbeats 4000000 in
theorem implCExt (a0 a1 : Option Addr) (n0 c0 n1 c1 B : Nat) (zA : List TAS) (zl : List TLink) (x0 x1 : Int) (a : Option Addr) (n c B' : Nat) (hs : List THop) (r i : Int) (w : World) (hA : HasAS w B a0 n0 zA) (hl : HasLink w B a1 n1 zl) (hB : B ≤ w.heap.size) (hn0 : n0 ≤ 1048576) (hn1 : n1 ≤ 1048576) (h : HasHop w B' a n hs) (hB' : B' ≤ w.heap.size) (hn : n ≤ 1048576) (hz : ∀ y ∈ zA, TAS.fits y) (ht : (Lit.int .i64 x0).wf = true) (hb : (Lit.int .i64 x1).wf = true) (hf : ∀ y ∈ hs, THop.fits y) (hg : w.cell? ⟨0, 0, none⟩ = some (.iface 131 (.agg #[.pointer (some ⟨1, 96, none⟩)]))) :
    Calls Tryz.prog 17 #[.agg #[.slice a0 n0 c0, .slice a1 n1 c1], .agg #[.int .i64 x0, .int .i64 x1, .slice a n c], .int .i64 r, .int .i64 i] w fun e w' => e = .returned (.bool (ceB n0 zA zl n1 x0 x1 hs n r i)) ∧ Mk0 w w' := by
  have M0 := (Mk.alloc w (Obj.cells #[Value.slice a0 n0 c0, Value.slice a1 n1 c1] 35)).new (Obj.cells #[Value.int .i64 x0, Value.int .i64 x1, Value.slice a n c] 39)
  have k0 : ((w.alloc (Obj.cells #[Value.slice a0 n0 c0, Value.slice a1 n1 c1] 35)).alloc (Obj.cells #[Value.int .i64 x0, Value.int .i64 x1, Value.slice a n c] 39)).cell? ⟨w.heap.size, 0, none⟩ = some (.slice a0 n0 c0) := by simp [go_sem]
  have k1 : ((w.alloc (Obj.cells #[Value.slice a0 n0 c0, Value.slice a1 n1 c1] 35)).alloc (Obj.cells #[Value.int .i64 x0, Value.int .i64 x1, Value.slice a n c] 39)).cell? ⟨w.heap.size, 1, none⟩ = some (.slice a1 n1 c1) := by simp [go_sem]
  have j0 : ((w.alloc (Obj.cells #[Value.slice a0 n0 c0, Value.slice a1 n1 c1] 35)).alloc (Obj.cells #[Value.int .i64 x0, Value.int .i64 x1, Value.slice a n c] 39)).cell? ⟨w.heap.size + 1, 0, none⟩ = some (.int .i64 x0) := by simp [go_sem]
  have j1 : ((w.alloc (Obj.cells #[Value.slice a0 n0 c0, Value.slice a1 n1 c1] 35)).alloc (Obj.cells #[Value.int .i64 x0, Value.int .i64 x1, Value.slice a n c] 39)).cell? ⟨w.heap.size + 1, 1, none⟩ = some (.int .i64 x1) := by simp [go_sem]
  have j2 : ((w.alloc (Obj.cells #[Value.slice a0 n0 c0, Value.slice a1 n1 c1] 35)).alloc (Obj.cells #[Value.int .i64 x0, Value.int .i64 x1, Value.slice a n c] 39)).cell? ⟨w.heap.size + 1, 2, none⟩ = some (.slice a n c) := by simp [go_sem]
  have HZ := Lib.hid hz
  have HF := Lib.hid hf
  have HT := Lib.hid ht
  have HBT := Lib.hid hb
  clear hz hf ht hb
  replace hg := M0.cellAt hg
  go_enter Tryz.func17, Tryz.ntmps17
  go_wp2_with fail
  generalize ((w.alloc (Obj.cells #[Value.slice a0 n0 c0, Value.slice a1 n1 c1] 35)).alloc (Obj.cells #[Value.int .i64 x0, Value.int .i64 x1, Value.slice a n c] 39)) = WW at *
  refine (implIsAS a0 a1 n0 c0 n1 c1 r _ hn0).mono ?_
  rintro e w2 ⟨he, m2⟩
  have M2 := M0.trans m2
  cases q1 : isAsB n0 r
  · have HR := Lib.hid (show ceB n0 zA zl n1 x0 x1 hs n r i = false by unfold ceB; rw [q1]; first | done | rfl | simp)
    rw [q1] at he
    subst he
    clear q1
    go_wp2_with fail
    go_ret
    exact ⟨retB HR.out.symm, M2⟩
  · have Q1 := Lib.hid q1
    rw [q1] at he
    subst he
    clear q1
    replace k0 := m2.cellAt k0
    replace k1 := m2.cellAt k1
    replace j0 := m2.cellAt j0
    replace j1 := m2.cellAt j1
    replace j2 := m2.cellAt j2
    replace hg := m2.cellAt hg
    go_wp2_with fail
    refine (implVSeg a0 a1 n0 c0 n1 c1 B zA zl x0 x1 a n c B' hs _ (hA.mk M2 hB (.inr (Nat.le_refl _))) (hl.mk M2 hB (.inr (Nat.le_refl _))) (Nat.le_trans hB M2.size) hn0 hn1 (h.mk M2 hB' (.inr (Nat.le_refl _))) (Nat.le_trans hB' M2.size) hn HZ.out HT.out HBT.out HF.out hg).mono ?_
    rintro e w3 ⟨he, m3⟩
    have M3 := M2.trans m3
    cases q2 : vsB n0 zA zl n1 x0 x1 hs n
    · have HR := Lib.hid (show ceB n0 zA zl n1 x0 x1 hs n r i = false by unfold ceB; rw [Q1.out, q2]; first | done | rfl | simp)
      rw [q2] at he
      subst he
      clear q2
      go_wp2_with fail
      go_ret
      exact ⟨retB HR.out.symm, M3⟩
    · have Q2 := Lib.hid q2
      have hnb := vsB_n q2
      rw [q2] at he
      subst he
      clear q2
      replace k0 := m3.cellAt k0
      replace k1 := m3.cellAt k1
      replace j0 := m3.cellAt j0
      replace j1 := m3.cellAt j1
      replace j2 := m3.cellAt j2
      replace hg := m3.cellAt hg
      go_wp2_with fail
      refine (implTermd x0 x1 a n c B' hs _ (h.mk M3 hB' (.inr (Nat.le_refl _))) (Nat.le_trans hB' M3.size) hn).mono ?_
      rintro e w4 ⟨he, m4⟩
      have M4 := M3.trans m4
      cases q3 : segEnds hs n
      · have Q3 := Lib.hid q3
        rw [q3] at he
        subst he
        clear q3
        replace k0 := m4.cellAt k0
        replace k1 := m4.cellAt k1
        replace j0 := m4.cellAt j0
        replace j1 := m4.cellAt j1
        replace j2 := m4.cellAt j2
        replace hg := m4.cellAt hg
        obtain ⟨m, rfl⟩ : ∃ m, n = m + 1 := ⟨n - 1, by omega⟩
        obtain ⟨x, hx⟩ : ∃ x, Hid (x = hs.getD m default) := ⟨_, rfl⟩
        have HR0 := Lib.hid (show ceB n0 zA zl n1 x0 x1 hs (m + 1) r i = (((remote zl x.nd x.eg n1).1 == r && (remote zl x.nd x.eg n1).2 == i) && !inUp (nthI (colN THop.nd hs (m + 1))) r (m + 1)) by unfold ceB; rw [Q1.out, Q2.out, Q3.out, show m + 1 - 1 = m from rfl, ← hx.out]; simp [Bool.and_comm, Bool.and_assoc])
        clear Q1 Q2 Q3
        have hfld : ∀ w', (Instr.field 72 (Value.agg #[Value.slice a (m + 1) c, Value.int .i64 x1]) 0).run Tryz.prog w' = .ok (.slice a (m + 1) c) w' := fun _ => by kernel_rfl
        go_wp2_with fail
        refine (chainOf x0 x1 a (m + 1) c _).mono ?_
        rintro e w5 ⟨rfl, m5⟩
        have M5 := M4.trans m5
        replace k0 := m5.cellAt k0
        replace k1 := m5.cellAt k1
        replace j0 := m5.cellAt j0
        replace j1 := m5.cellAt j1
        replace j2 := m5.cellAt j2
        replace hg := m5.cellAt hg
        go_wp2_with fail
        refine (hopsLast a m c B' hs x _ (h.mk M5 hB' (.inr (Nat.le_refl _))) (Nat.le_trans hB' M5.size) hn hx.out).mono ?_
        rintro e w6 ⟨rfl, m6⟩
        have M6 := M5.trans m6
        replace k0 := m6.cellAt k0
        replace k1 := m6.cellAt k1
        replace j0 := m6.cellAt j0
        replace j1 := m6.cellAt j1
        replace j2 := m6.cellAt j2
        replace hg := m6.cellAt hg
        have MX := Mk.alloc w6 (Obj.cells #[Value.int .i64 x.nd, Value.int .i64 x.ing, Value.int .i64 x.eg, Value.int .i64 x.exp, Value.int .i64 x.mac] 67)
        have e0 : (w6.alloc (Obj.cells #[Value.int .i64 x.nd, Value.int .i64 x.ing, Value.int .i64 x.eg, Value.int .i64 x.exp, Value.int .i64 x.mac] 67)).cell? ⟨w6.heap.size, 0, none⟩ = some (.int .i64 x.nd) := by simp [go_sem]
        have e2 : (w6.alloc (Obj.cells #[Value.int .i64 x.nd, Value.int .i64 x.ing, Value.int .i64 x.eg, Value.int .i64 x.exp, Value.int .i64 x.mac] 67)).cell? ⟨w6.heap.size, 2, none⟩ = some (.int .i64 x.eg) := by simp [go_sem]
        replace k0 := MX.cellAt k0
        replace k1 := MX.cellAt k1
        replace j0 := MX.cellAt j0
        replace j1 := MX.cellAt j1
        replace j2 := MX.cellAt j2
        have M7 := M6.trans MX
        go_wp2_with fail
        refine (implRemote a0 a1 n0 c0 n1 c1 B zl x.nd x.eg _ (hl.mk M7 hB (.inr (Nat.le_refl _))) (Nat.le_trans hB M7.size) hn1).mono ?_
        rintro e w7 ⟨he, mw7⟩
        have M8 := M7.trans mw7
        replace k0 := mw7.cellAt k0
        replace k1 := mw7.cellAt k1
        replace j0 := mw7.cellAt j0
        replace j1 := mw7.cellAt j1
        replace j2 := mw7.cellAt j2
        obtain ⟨u, hu⟩ : ∃ u, Hid (u = (remote zl x.nd x.eg n1).1) := ⟨_, Lib.hid rfl⟩
        obtain ⟨v, hv⟩ : ∃ v, Hid (v = (remote zl x.nd x.eg n1).2) := ⟨_, Lib.hid rfl⟩
        rw [← hu.out, ← hv.out] at he HR0
        subst he
        cases q5 : (u == r)
        · have HR := Lib.hid (show ceB n0 zA zl n1 x0 x1 hs (m + 1) r i = false by rw [HR0.out, q5]; rfl)
          go_wp2_with fail
          go_ret
          exact ⟨retB HR.out.symm, M8⟩
        · cases q6 : (v == i)
          · have HR := Lib.hid (show ceB n0 zA zl n1 x0 x1 hs (m + 1) r i = false by rw [HR0.out, q5, q6]; rfl)
            go_wp2_with fail
            go_ret
            exact ⟨retB HR.out.symm, M8⟩
          · have HR := Lib.hid (show ceB n0 zA zl n1 x0 x1 hs (m + 1) r i = !inUp (nthI (colN THop.nd hs (m + 1))) r (m + 1) by rw [HR0.out, q5, q6]; rfl)
            clear HR0
            go_wp2_with fail
            clear q5 q6
            refine (implSegASes x0 x1 a (m + 1) c B' hs _ (h.mk M8 hB' (.inr (Nat.le_refl _))) (Nat.le_trans hB' M8.size) hn).mono ?_
            rintro e w8 ⟨A, N, C, rfl, hA2, hO, bb⟩
            have M9 := M8.trans (Mk.of_below bb)
            obtain rfl : m + 1 = N := (colN_len _ _ _).symm.trans hO.1
            have hH := hO.has
            go_wp2_with fail
            refine (contI r A (m + 1) C _ (colN THop.nd hs (m + 1)) _ hH (by omega)).mono ?_
            rintro e w' ⟨rfl, rfl⟩
            go_wp2_with fail
            go_ret
            exact ⟨retB HR.out.symm, M9⟩
      · have HR := Lib.hid (show ceB n0 zA zl n1 x0 x1 hs n r i = false by unfold ceB; rw [Q1.out, Q2.out, q3]; first | done | rfl | simp)
        rw [q3] at he
        subst he
        clear q3
        go_wp2_with fail
        go_ret
        exact ⟨retB HR.out.symm, M4⟩

end Go.Proofs.YtefjbnbibmiccaaGreatDoor
