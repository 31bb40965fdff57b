
/- Extend of the program. -/
import Derived.Test.YtbbcpdgdihdmiaaGreatDoorGrowI
namespace Go.Proofs.YtbbcpdgdihdmiaaGreatDoor
open Go.ChangeShapes Go.WideShapes Go.ChangeAt Go.RowKit
set_option linter.unusedVariables false
set_option maxRecDepth 100000 in
set_option maxHeartbeats 4000000 in
theorem implMay1 (a0 a1 : Option Addr) (n0 c0 n1 c1 B : Nat) (zA : List TAS) (zl : List TLink) (p : TPolicy) (x0 x1 : Int) (a : Option Addr) (n c B' : Nat) (hs : List THop) (r i o y z : Int) (w : World) (hA : HasAS w B a0 n0 zA) (hl : HasLink w B a1 n1 zl) (hB : B ≤ w.heap.size) (hn0 : n0 ≤ 1048576) (hn1 : n1 ≤ 1048576) (h : HasHop w B' a n hs) (hB' : B' ≤ w.heap.size) (hn : n ≤ 1048576) (hz : ∀ y ∈ zA, TAS.fits y) (ht : (Lit.int .i64 x0).wf = true) (hb : (Lit.int .i64 x1).wf = true) (hf : ∀ y ∈ hs, THop.fits y) (hg : w.cell? ⟨0, 0, none⟩ = some (.iface 161 (.agg #[.pointer (some ⟨1, 139, none⟩)]))) :
    Calls Tryz.prog 69 #[.agg #[.slice a0 n0 c0, .slice a1 n1 c1], .agg #[.int .i64 p.len, .int .i64 p.denied, .int .i64 p.closed, .int .i64 p.life], .agg #[.int .i64 x0, .int .i64 x1, .slice a n c], .agg #[.int .i64 r, .int .i64 i, .int .i64 o, .int .i64 y, .int .i64 z], .int .i64 1] w fun e w' => e = .returned (.bool (polB p hs n o && ceB n0 zA zl n1 x0 x1 hs n r i && inB o 1 6 && (o != i) && (kindOf zl r o n1 == onV (sgKd n0 zA zl n1 hs n)))) ∧ Mk0 w w' := by
  have M0 := (((Mk.alloc w (Obj.cells #[Value.slice a0 n0 c0, Value.slice a1 n1 c1] 37)).new (Obj.cells #[Value.int .i64 p.len, Value.int .i64 p.denied, Value.int .i64 p.closed, Value.int .i64 p.life] 39)).new (Obj.cells #[Value.int .i64 x0, Value.int .i64 x1, Value.slice a n c] 31)).new (Obj.cells #[Value.int .i64 r, Value.int .i64 i, Value.int .i64 o, Value.int .i64 y, Value.int .i64 z] 72)
  have k0 : ((((w.alloc (Obj.cells #[Value.slice a0 n0 c0, Value.slice a1 n1 c1] 37)).alloc (Obj.cells #[Value.int .i64 p.len, Value.int .i64 p.denied, Value.int .i64 p.closed, Value.int .i64 p.life] 39)).alloc (Obj.cells #[Value.int .i64 x0, Value.int .i64 x1, Value.slice a n c] 31)).alloc (Obj.cells #[Value.int .i64 r, Value.int .i64 i, Value.int .i64 o, Value.int .i64 y, Value.int .i64 z] 72)).cell? ⟨w.heap.size, 0, none⟩ = some (.slice a0 n0 c0) := by simp [go_sem]
  have k1 : ((((w.alloc (Obj.cells #[Value.slice a0 n0 c0, Value.slice a1 n1 c1] 37)).alloc (Obj.cells #[Value.int .i64 p.len, Value.int .i64 p.denied, Value.int .i64 p.closed, Value.int .i64 p.life] 39)).alloc (Obj.cells #[Value.int .i64 x0, Value.int .i64 x1, Value.slice a n c] 31)).alloc (Obj.cells #[Value.int .i64 r, Value.int .i64 i, Value.int .i64 o, Value.int .i64 y, Value.int .i64 z] 72)).cell? ⟨w.heap.size, 1, none⟩ = some (.slice a1 n1 c1) := by simp [go_sem]
  have p0 : ((((w.alloc (Obj.cells #[Value.slice a0 n0 c0, Value.slice a1 n1 c1] 37)).alloc (Obj.cells #[Value.int .i64 p.len, Value.int .i64 p.denied, Value.int .i64 p.closed, Value.int .i64 p.life] 39)).alloc (Obj.cells #[Value.int .i64 x0, Value.int .i64 x1, Value.slice a n c] 31)).alloc (Obj.cells #[Value.int .i64 r, Value.int .i64 i, Value.int .i64 o, Value.int .i64 y, Value.int .i64 z] 72)).cell? ⟨w.heap.size + 1, 0, none⟩ = some (.int .i64 p.len) := by simp [go_sem]
  have p1 : ((((w.alloc (Obj.cells #[Value.slice a0 n0 c0, Value.slice a1 n1 c1] 37)).alloc (Obj.cells #[Value.int .i64 p.len, Value.int .i64 p.denied, Value.int .i64 p.closed, Value.int .i64 p.life] 39)).alloc (Obj.cells #[Value.int .i64 x0, Value.int .i64 x1, Value.slice a n c] 31)).alloc (Obj.cells #[Value.int .i64 r, Value.int .i64 i, Value.int .i64 o, Value.int .i64 y, Value.int .i64 z] 72)).cell? ⟨w.heap.size + 1, 1, none⟩ = some (.int .i64 p.denied) := by simp [go_sem]
  have p2 : ((((w.alloc (Obj.cells #[Value.slice a0 n0 c0, Value.slice a1 n1 c1] 37)).alloc (Obj.cells #[Value.int .i64 p.len, Value.int .i64 p.denied, Value.int .i64 p.closed, Value.int .i64 p.life] 39)).alloc (Obj.cells #[Value.int .i64 x0, Value.int .i64 x1, Value.slice a n c] 31)).alloc (Obj.cells #[Value.int .i64 r, Value.int .i64 i, Value.int .i64 o, Value.int .i64 y, Value.int .i64 z] 72)).cell? ⟨w.heap.size + 1, 2, none⟩ = some (.int .i64 p.closed) := by simp [go_sem]
  have p3 : ((((w.alloc (Obj.cells #[Value.slice a0 n0 c0, Value.slice a1 n1 c1] 37)).alloc (Obj.cells #[Value.int .i64 p.len, Value.int .i64 p.denied, Value.int .i64 p.closed, Value.int .i64 p.life] 39)).alloc (Obj.cells #[Value.int .i64 x0, Value.int .i64 x1, Value.slice a n c] 31)).alloc (Obj.cells #[Value.int .i64 r, Value.int .i64 i, Value.int .i64 o, Value.int .i64 y, Value.int .i64 z] 72)).cell? ⟨w.heap.size + 1, 3, none⟩ = some (.int .i64 p.life) := by simp [go_sem]
  have j0 : ((((w.alloc (Obj.cells #[Value.slice a0 n0 c0, Value.slice a1 n1 c1] 37)).alloc (Obj.cells #[Value.int .i64 p.len, Value.int .i64 p.denied, Value.int .i64 p.closed, Value.int .i64 p.life] 39)).alloc (Obj.cells #[Value.int .i64 x0, Value.int .i64 x1, Value.slice a n c] 31)).alloc (Obj.cells #[Value.int .i64 r, Value.int .i64 i, Value.int .i64 o, Value.int .i64 y, Value.int .i64 z] 72)).cell? ⟨w.heap.size + 1 + 1, 0, none⟩ = some (.int .i64 x0) := by simp [go_sem]
  have j1 : ((((w.alloc (Obj.cells #[Value.slice a0 n0 c0, Value.slice a1 n1 c1] 37)).alloc (Obj.cells #[Value.int .i64 p.len, Value.int .i64 p.denied, Value.int .i64 p.closed, Value.int .i64 p.life] 39)).alloc (Obj.cells #[Value.int .i64 x0, Value.int .i64 x1, Value.slice a n c] 31)).alloc (Obj.cells #[Value.int .i64 r, Value.int .i64 i, Value.int .i64 o, Value.int .i64 y, Value.int .i64 z] 72)).cell? ⟨w.heap.size + 1 + 1, 1, none⟩ = some (.int .i64 x1) := by simp [go_sem]
  have j2 : ((((w.alloc (Obj.cells #[Value.slice a0 n0 c0, Value.slice a1 n1 c1] 37)).alloc (Obj.cells #[Value.int .i64 p.len, Value.int .i64 p.denied, Value.int .i64 p.closed, Value.int .i64 p.life] 39)).alloc (Obj.cells #[Value.int .i64 x0, Value.int .i64 x1, Value.slice a n c] 31)).alloc (Obj.cells #[Value.int .i64 r, Value.int .i64 i, Value.int .i64 o, Value.int .i64 y, Value.int .i64 z] 72)).cell? ⟨w.heap.size + 1 + 1, 2, none⟩ = some (.slice a n c) := by simp [go_sem]
  have q0 : ((((w.alloc (Obj.cells #[Value.slice a0 n0 c0, Value.slice a1 n1 c1] 37)).alloc (Obj.cells #[Value.int .i64 p.len, Value.int .i64 p.denied, Value.int .i64 p.closed, Value.int .i64 p.life] 39)).alloc (Obj.cells #[Value.int .i64 x0, Value.int .i64 x1, Value.slice a n c] 31)).alloc (Obj.cells #[Value.int .i64 r, Value.int .i64 i, Value.int .i64 o, Value.int .i64 y, Value.int .i64 z] 72)).cell? ⟨w.heap.size + 1 + 1 + 1, 0, none⟩ = some (.int .i64 r) := by simp [go_sem]
  have q1 : ((((w.alloc (Obj.cells #[Value.slice a0 n0 c0, Value.slice a1 n1 c1] 37)).alloc (Obj.cells #[Value.int .i64 p.len, Value.int .i64 p.denied, Value.int .i64 p.closed, Value.int .i64 p.life] 39)).alloc (Obj.cells #[Value.int .i64 x0, Value.int .i64 x1, Value.slice a n c] 31)).alloc (Obj.cells #[Value.int .i64 r, Value.int .i64 i, Value.int .i64 o, Value.int .i64 y, Value.int .i64 z] 72)).cell? ⟨w.heap.size + 1 + 1 + 1, 1, none⟩ = some (.int .i64 i) := by simp [go_sem]
  have q2 : ((((w.alloc (Obj.cells #[Value.slice a0 n0 c0, Value.slice a1 n1 c1] 37)).alloc (Obj.cells #[Value.int .i64 p.len, Value.int .i64 p.denied, Value.int .i64 p.closed, Value.int .i64 p.life] 39)).alloc (Obj.cells #[Value.int .i64 x0, Value.int .i64 x1, Value.slice a n c] 31)).alloc (Obj.cells #[Value.int .i64 r, Value.int .i64 i, Value.int .i64 o, Value.int .i64 y, Value.int .i64 z] 72)).cell? ⟨w.heap.size + 1 + 1 + 1, 2, none⟩ = some (.int .i64 o) := by simp [go_sem]
  have q3 : ((((w.alloc (Obj.cells #[Value.slice a0 n0 c0, Value.slice a1 n1 c1] 37)).alloc (Obj.cells #[Value.int .i64 p.len, Value.int .i64 p.denied, Value.int .i64 p.closed, Value.int .i64 p.life] 39)).alloc (Obj.cells #[Value.int .i64 x0, Value.int .i64 x1, Value.slice a n c] 31)).alloc (Obj.cells #[Value.int .i64 r, Value.int .i64 i, Value.int .i64 o, Value.int .i64 y, Value.int .i64 z] 72)).cell? ⟨w.heap.size + 1 + 1 + 1, 3, none⟩ = some (.int .i64 y) := by simp [go_sem]
  have q4 : ((((w.alloc (Obj.cells #[Value.slice a0 n0 c0, Value.slice a1 n1 c1] 37)).alloc (Obj.cells #[Value.int .i64 p.len, Value.int .i64 p.denied, Value.int .i64 p.closed, Value.int .i64 p.life] 39)).alloc (Obj.cells #[Value.int .i64 x0, Value.int .i64 x1, Value.slice a n c] 31)).alloc (Obj.cells #[Value.int .i64 r, Value.int .i64 i, Value.int .i64 o, Value.int .i64 y, Value.int .i64 z] 72)).cell? ⟨w.heap.size + 1 + 1 + 1, 4, none⟩ = some (.int .i64 z) := by simp [go_sem]
  have HZ := Lib.hid hz
  have HF := Lib.hid hf
  have HT := Lib.hid ht
  have HBT := Lib.hid hb
  clear hz hf ht hb
  replace hg := M0.cellAt hg
  go_enter Tryz.func69, Tryz.ntmps69
  go_wp2_with fail
  generalize ((((w.alloc (Obj.cells #[Value.slice a0 n0 c0, Value.slice a1 n1 c1] 37)).alloc (Obj.cells #[Value.int .i64 p.len, Value.int .i64 p.denied, Value.int .i64 p.closed, Value.int .i64 p.life] 39)).alloc (Obj.cells #[Value.int .i64 x0, Value.int .i64 x1, Value.slice a n c] 31)).alloc (Obj.cells #[Value.int .i64 r, Value.int .i64 i, Value.int .i64 o, Value.int .i64 y, Value.int .i64 z] 72)) = WW at *
  refine (implAllows p x0 x1 a n c B' hs o _ (h.mk M0 hB' (.inr (Nat.le_refl _))) (Nat.le_trans hB' M0.size) hn).mono ?_
  rintro e w2 ⟨he, m2⟩
  have M2 := M0.trans m2
  cases q1 : polB p hs n o
  · have HR := Lib.hid (show (polB p hs n o && ceB n0 zA zl n1 x0 x1 hs n r i && inB o 1 6 && (o != i) && (kindOf zl r o n1 == onV (sgKd n0 zA zl n1 hs n))) = false by rw [q1]; first | done | rfl | simp)
    rw [q1] at he
    subst he
    clear q1
    go_wp2_with fail
    go_ret
    exact ⟨retB HR.out.symm, M2⟩
  · have Q1 := Lib.hid q1
    rw [q1] at he
    subst he
    clear q1
    replace k0 := m2.cellAt k0
    replace k1 := m2.cellAt k1
    replace p0 := m2.cellAt p0
    replace p1 := m2.cellAt p1
    replace p2 := m2.cellAt p2
    replace p3 := m2.cellAt p3
    replace j0 := m2.cellAt j0
    replace j1 := m2.cellAt j1
    replace j2 := m2.cellAt j2
    replace q0 := m2.cellAt q0
    replace q1 := m2.cellAt q1
    replace q2 := m2.cellAt q2
    replace q3 := m2.cellAt q3
    replace q4 := m2.cellAt q4
    replace hg := m2.cellAt hg
    go_wp2_with fail
    refine (implKind a0 a1 n0 c0 n1 c1 B zl r o _ (hl.mk M2 hB (.inr (Nat.le_refl _))) (Nat.le_trans hB M2.size) hn1).mono ?_
    rintro e w3 ⟨he, m3⟩
    have M3 := M2.trans m3
    obtain ⟨v, hv⟩ : ∃ v, Hid (v = kindOf zl r o n1) := ⟨_, Lib.hid rfl⟩
    rw [← hv.out] at he
    subst he
    replace k0 := m3.cellAt k0
    replace k1 := m3.cellAt k1
    replace p0 := m3.cellAt p0
    replace p1 := m3.cellAt p1
    replace p2 := m3.cellAt p2
    replace p3 := m3.cellAt p3
    replace j0 := m3.cellAt j0
    replace j1 := m3.cellAt j1
    replace j2 := m3.cellAt j2
    replace q0 := m3.cellAt q0
    replace q1 := m3.cellAt q1
    replace q2 := m3.cellAt q2
    replace q3 := m3.cellAt q3
    replace q4 := m3.cellAt q4
    replace hg := m3.cellAt hg
    go_wp2_with fail
    refine (implCExt a0 a1 n0 c0 n1 c1 B zA zl x0 x1 a n c B' hs r i _ (hA.mk M3 hB (.inr (Nat.le_refl _))) (hl.mk M3 hB (.inr (Nat.le_refl _))) (Nat.le_trans hB M3.size) hn0 hn1 (h.mk M3 hB' (.inr (Nat.le_refl _))) (Nat.le_trans hB' M3.size) hn HZ.out HT.out HBT.out HF.out hg).mono ?_
    rintro e w4 ⟨he, m4⟩
    have M4 := M3.trans m4
    cases q2 : ceB n0 zA zl n1 x0 x1 hs n r i
    · have HR := Lib.hid (show (polB p hs n o && ceB n0 zA zl n1 x0 x1 hs n r i && inB o 1 6 && (o != i) && (kindOf zl r o n1 == onV (sgKd n0 zA zl n1 hs n))) = false by rw [← hv.out, Q1.out, q2]; first | done | rfl | simp)
      rw [q2] at he
      subst he
      clear q2
      go_wp2_with fail
      go_ret
      exact ⟨retB HR.out.symm, M4⟩
    · have Q2 := Lib.hid q2
      rw [q2] at he
      subst he
      clear q2
      replace k0 := m4.cellAt k0
      replace k1 := m4.cellAt k1
      replace p0 := m4.cellAt p0
      replace p1 := m4.cellAt p1
      replace p2 := m4.cellAt p2
      replace p3 := m4.cellAt p3
      replace j0 := m4.cellAt j0
      replace j1 := m4.cellAt j1
      replace j2 := m4.cellAt j2
      replace q0 := m4.cellAt q0
      replace q1 := m4.cellAt q1
      replace q2 := m4.cellAt q2
      replace q3 := m4.cellAt q3
      replace q4 := m4.cellAt q4
      replace hg := m4.cellAt hg
      go_wp2_with fail
      refine (implIsIf o _).mono ?_
      rintro e w' ⟨he, rfl⟩
      cases q3 : inB o 1 6
      · have HR := Lib.hid (show (polB p hs n o && ceB n0 zA zl n1 x0 x1 hs n r i && inB o 1 6 && (o != i) && (kindOf zl r o n1 == onV (sgKd n0 zA zl n1 hs n))) = false by rw [← hv.out, Q1.out, Q2.out, q3]; first | done | rfl | simp)
        rw [q3] at he
        subst he
        clear q3
        go_wp2_with fail
        go_ret
        exact ⟨retB HR.out.symm, M4⟩
      · have Q3 := Lib.hid q3
        rw [q3] at he
        subst he
        clear q3
        cases q4 : (o != i)
        · have HR := Lib.hid (show (polB p hs n o && ceB n0 zA zl n1 x0 x1 hs n r i && inB o 1 6 && (o != i) && (kindOf zl r o n1 == onV (sgKd n0 zA zl n1 hs n))) = false by rw [← hv.out, Q1.out, Q2.out, Q3.out, q4]; first | done | rfl | simp)
          go_wp2_with fail
          go_ret
          exact ⟨retB HR.out.symm, M4⟩
        · have Q4 := Lib.hid q4
          go_wp2_with fail
          clear q4
          refine (implSgKind a0 a1 n0 c0 n1 c1 B zA zl x0 x1 a n c B' hs _ (hA.mk M4 hB (.inr (Nat.le_refl _))) (hl.mk M4 hB (.inr (Nat.le_refl _))) (Nat.le_trans hB M4.size) hn0 hn1 (h.mk M4 hB' (.inr (Nat.le_refl _))) (Nat.le_trans hB' M4.size) hn).mono ?_
          rintro e w5 ⟨he, m5⟩
          obtain ⟨k, hk⟩ : ∃ k, Hid (k = sgKd n0 zA zl n1 hs n) := ⟨_, Lib.hid rfl⟩
          rw [← hk.out] at he
          subst he
          have M5 := M4.trans m5
          go_wp2_with fail
          refine (implOnw k _).mono ?_
          rintro e w' ⟨rfl, rfl⟩
          have HR := Lib.hid (show (polB p hs n o && ceB n0 zA zl n1 x0 x1 hs n r i && inB o 1 6 && (o != i) && (kindOf zl r o n1 == onV (sgKd n0 zA zl n1 hs n))) = (v == onV k) by rw [← hv.out, ← hk.out, Q1.out, Q2.out, Q3.out, Q4.out]; rfl)
          go_wp2_with fail
          go_ret
          exact ⟨retB HR.out.symm, M5⟩

set_option maxRecDepth 100000 in
set_option maxHeartbeats 40000000 in
theorem implExtend (a0 a1 : Option Addr) (n0 c0 n1 c1 B : Nat) (zA : List TAS) (zl : List TLink) (p : TPolicy) (x0 x1 : Int) (a : Option Addr) (n c B' : Nat) (hs : List THop) (r i o : Int) (w : World) (hA : HasAS w B a0 n0 zA) (hl : HasLink w B a1 n1 zl) (hB : B ≤ w.heap.size) (hn0 : n0 ≤ 1048576) (hn1 : n1 ≤ 1048576) (h : HasHop w B' a n hs) (hB' : B' ≤ w.heap.size) (hn : n ≤ 1048576) (hc0 : a = none → c = 0) (hnc : n ≤ c) (hz : ∀ y ∈ zA, TAS.fits y) (ht : (Lit.int .i64 x0).wf = true) (hb : (Lit.int .i64 x1).wf = true) (hr : (Lit.int .i64 r).wf = true) (hi : (Lit.int .i64 i).wf = true) (ho : (Lit.int .i64 o).wf = true) (hf : ∀ y ∈ hs, THop.fits y) (hg : w.cell? ⟨0, 0, none⟩ = some (.iface 161 (.agg #[.pointer (some ⟨1, 139, none⟩)]))) :
    Calls Tryz.prog 21 #[.agg #[.slice a0 n0 c0, .slice a1 n1 c1], .agg #[.int .i64 p.len, .int .i64 p.denied, .int .i64 p.closed, .int .i64 p.life], .agg #[.int .i64 x0, .int .i64 x1, .slice a n c], .int .i64 r, .int .i64 i, .int .i64 o] w (OutTSegment x0 x1 (growR zA p x0 x1 hs n r i o (exB n0 zA zl n1 p x0 x1 hs n r i o)) (exB n0 zA zl n1 p x0 x1 hs n r i o) w) := by
  have M0 := ((Mk.alloc w (Obj.cells #[Value.slice a0 n0 c0, Value.slice a1 n1 c1] 37)).new (Obj.cells #[Value.int .i64 p.len, Value.int .i64 p.denied, Value.int .i64 p.closed, Value.int .i64 p.life] 39)).new (Obj.cells #[Value.int .i64 x0, Value.int .i64 x1, Value.slice a n c] 31) |>.new (Obj.cells #[Value.int .i64 0, Value.int .i64 0, Value.slice none 0 0] 31)
  have QV := (show (polB p hs n o && ceB n0 zA zl n1 x0 x1 hs n r i && inB o 1 6 && (o != i) && (kindOf zl r o n1 == onV (sgKd n0 zA zl n1 hs n))) = exB n0 zA zl n1 p x0 x1 hs n r i o by unfold exB; simp only [bne]; cases polB p hs n o <;> simp)
  have hAs : exB n0 zA zl n1 p x0 x1 hs n r i o = true → isAsB n0 r = true := fun q => by unfold exB at q; simp only [Bool.and_eq_true] at q; exact ceB_as (by first | exact q.1 | exact q.1.1.1.1)
  have k0 : ((((w.alloc (Obj.cells #[Value.slice a0 n0 c0, Value.slice a1 n1 c1] 37)).alloc (Obj.cells #[Value.int .i64 p.len, Value.int .i64 p.denied, Value.int .i64 p.closed, Value.int .i64 p.life] 39)).alloc (Obj.cells #[Value.int .i64 x0, Value.int .i64 x1, Value.slice a n c] 31)).alloc (Obj.cells #[Value.int .i64 0, Value.int .i64 0, Value.slice none 0 0] 31)).cell? ⟨w.heap.size, 0, none⟩ = some (.slice a0 n0 c0) := by simp [go_sem]
  have k1 : ((((w.alloc (Obj.cells #[Value.slice a0 n0 c0, Value.slice a1 n1 c1] 37)).alloc (Obj.cells #[Value.int .i64 p.len, Value.int .i64 p.denied, Value.int .i64 p.closed, Value.int .i64 p.life] 39)).alloc (Obj.cells #[Value.int .i64 x0, Value.int .i64 x1, Value.slice a n c] 31)).alloc (Obj.cells #[Value.int .i64 0, Value.int .i64 0, Value.slice none 0 0] 31)).cell? ⟨w.heap.size, 1, none⟩ = some (.slice a1 n1 c1) := by simp [go_sem]
  have p0 : ((((w.alloc (Obj.cells #[Value.slice a0 n0 c0, Value.slice a1 n1 c1] 37)).alloc (Obj.cells #[Value.int .i64 p.len, Value.int .i64 p.denied, Value.int .i64 p.closed, Value.int .i64 p.life] 39)).alloc (Obj.cells #[Value.int .i64 x0, Value.int .i64 x1, Value.slice a n c] 31)).alloc (Obj.cells #[Value.int .i64 0, Value.int .i64 0, Value.slice none 0 0] 31)).cell? ⟨w.heap.size + 1, 0, none⟩ = some (.int .i64 p.len) := by simp [go_sem]
  have p1 : ((((w.alloc (Obj.cells #[Value.slice a0 n0 c0, Value.slice a1 n1 c1] 37)).alloc (Obj.cells #[Value.int .i64 p.len, Value.int .i64 p.denied, Value.int .i64 p.closed, Value.int .i64 p.life] 39)).alloc (Obj.cells #[Value.int .i64 x0, Value.int .i64 x1, Value.slice a n c] 31)).alloc (Obj.cells #[Value.int .i64 0, Value.int .i64 0, Value.slice none 0 0] 31)).cell? ⟨w.heap.size + 1, 1, none⟩ = some (.int .i64 p.denied) := by simp [go_sem]
  have p2 : ((((w.alloc (Obj.cells #[Value.slice a0 n0 c0, Value.slice a1 n1 c1] 37)).alloc (Obj.cells #[Value.int .i64 p.len, Value.int .i64 p.denied, Value.int .i64 p.closed, Value.int .i64 p.life] 39)).alloc (Obj.cells #[Value.int .i64 x0, Value.int .i64 x1, Value.slice a n c] 31)).alloc (Obj.cells #[Value.int .i64 0, Value.int .i64 0, Value.slice none 0 0] 31)).cell? ⟨w.heap.size + 1, 2, none⟩ = some (.int .i64 p.closed) := by simp [go_sem]
  have p3 : ((((w.alloc (Obj.cells #[Value.slice a0 n0 c0, Value.slice a1 n1 c1] 37)).alloc (Obj.cells #[Value.int .i64 p.len, Value.int .i64 p.denied, Value.int .i64 p.closed, Value.int .i64 p.life] 39)).alloc (Obj.cells #[Value.int .i64 x0, Value.int .i64 x1, Value.slice a n c] 31)).alloc (Obj.cells #[Value.int .i64 0, Value.int .i64 0, Value.slice none 0 0] 31)).cell? ⟨w.heap.size + 1, 3, none⟩ = some (.int .i64 p.life) := by simp [go_sem]
  have j0 : ((((w.alloc (Obj.cells #[Value.slice a0 n0 c0, Value.slice a1 n1 c1] 37)).alloc (Obj.cells #[Value.int .i64 p.len, Value.int .i64 p.denied, Value.int .i64 p.closed, Value.int .i64 p.life] 39)).alloc (Obj.cells #[Value.int .i64 x0, Value.int .i64 x1, Value.slice a n c] 31)).alloc (Obj.cells #[Value.int .i64 0, Value.int .i64 0, Value.slice none 0 0] 31)).cell? ⟨w.heap.size + 1 + 1, 0, none⟩ = some (.int .i64 x0) := by simp [go_sem]
  have j1 : ((((w.alloc (Obj.cells #[Value.slice a0 n0 c0, Value.slice a1 n1 c1] 37)).alloc (Obj.cells #[Value.int .i64 p.len, Value.int .i64 p.denied, Value.int .i64 p.closed, Value.int .i64 p.life] 39)).alloc (Obj.cells #[Value.int .i64 x0, Value.int .i64 x1, Value.slice a n c] 31)).alloc (Obj.cells #[Value.int .i64 0, Value.int .i64 0, Value.slice none 0 0] 31)).cell? ⟨w.heap.size + 1 + 1, 1, none⟩ = some (.int .i64 x1) := by simp [go_sem]
  have j2 : ((((w.alloc (Obj.cells #[Value.slice a0 n0 c0, Value.slice a1 n1 c1] 37)).alloc (Obj.cells #[Value.int .i64 p.len, Value.int .i64 p.denied, Value.int .i64 p.closed, Value.int .i64 p.life] 39)).alloc (Obj.cells #[Value.int .i64 x0, Value.int .i64 x1, Value.slice a n c] 31)).alloc (Obj.cells #[Value.int .i64 0, Value.int .i64 0, Value.slice none 0 0] 31)).cell? ⟨w.heap.size + 1 + 1, 2, none⟩ = some (.slice a n c) := by simp [go_sem]
  have r0 : ((((w.alloc (Obj.cells #[Value.slice a0 n0 c0, Value.slice a1 n1 c1] 37)).alloc (Obj.cells #[Value.int .i64 p.len, Value.int .i64 p.denied, Value.int .i64 p.closed, Value.int .i64 p.life] 39)).alloc (Obj.cells #[Value.int .i64 x0, Value.int .i64 x1, Value.slice a n c] 31)).alloc (Obj.cells #[Value.int .i64 0, Value.int .i64 0, Value.slice none 0 0] 31)).cell? ⟨w.heap.size + 1 + 1 + 1, 0, none⟩ = some (.int .i64 0) := by simp [go_sem]
  have r1 : ((((w.alloc (Obj.cells #[Value.slice a0 n0 c0, Value.slice a1 n1 c1] 37)).alloc (Obj.cells #[Value.int .i64 p.len, Value.int .i64 p.denied, Value.int .i64 p.closed, Value.int .i64 p.life] 39)).alloc (Obj.cells #[Value.int .i64 x0, Value.int .i64 x1, Value.slice a n c] 31)).alloc (Obj.cells #[Value.int .i64 0, Value.int .i64 0, Value.slice none 0 0] 31)).cell? ⟨w.heap.size + 1 + 1 + 1, 1, none⟩ = some (.int .i64 0) := by simp [go_sem]
  have r2 : ((((w.alloc (Obj.cells #[Value.slice a0 n0 c0, Value.slice a1 n1 c1] 37)).alloc (Obj.cells #[Value.int .i64 p.len, Value.int .i64 p.denied, Value.int .i64 p.closed, Value.int .i64 p.life] 39)).alloc (Obj.cells #[Value.int .i64 x0, Value.int .i64 x1, Value.slice a n c] 31)).alloc (Obj.cells #[Value.int .i64 0, Value.int .i64 0, Value.slice none 0 0] 31)).cell? ⟨w.heap.size + 1 + 1 + 1, 2, none⟩ = some (.slice none 0 0) := by simp [go_sem]
  have hs4 : ((((w.alloc (Obj.cells #[Value.slice a0 n0 c0, Value.slice a1 n1 c1] 37)).alloc (Obj.cells #[Value.int .i64 p.len, Value.int .i64 p.denied, Value.int .i64 p.closed, Value.int .i64 p.life] 39)).alloc (Obj.cells #[Value.int .i64 x0, Value.int .i64 x1, Value.slice a n c] 31)).alloc (Obj.cells #[Value.int .i64 0, Value.int .i64 0, Value.slice none 0 0] 31)).heap.size = w.heap.size + 1 + 1 + 1 + 1 := by simp only [World.size_alloc]
  have fR : ∀ q, ((((w.alloc (Obj.cells #[Value.slice a0 n0 c0, Value.slice a1 n1 c1] 37)).alloc (Obj.cells #[Value.int .i64 p.len, Value.int .i64 p.denied, Value.int .i64 p.closed, Value.int .i64 p.life] 39)).alloc (Obj.cells #[Value.int .i64 x0, Value.int .i64 x1, Value.slice a n c] 31)).alloc (Obj.cells #[Value.int .i64 0, Value.int .i64 0, Value.slice none 0 0] 31)).frozen? ⟨w.heap.size + 1 + 1 + 1, q, none⟩ = false := fun q => by simp [go_sem]
  have KG := implGrow a0 a1 n0 c0 n1 c1 B zA p x0 x1 a n c B' hs r i o 0 0 1 (exB n0 zA zl n1 p x0 x1 hs n r i o) ((((w.alloc (Obj.cells #[Value.slice a0 n0 c0, Value.slice a1 n1 c1] 37)).alloc (Obj.cells #[Value.int .i64 p.len, Value.int .i64 p.denied, Value.int .i64 p.closed, Value.int .i64 p.life] 39)).alloc (Obj.cells #[Value.int .i64 x0, Value.int .i64 x1, Value.slice a n c] 31)).alloc (Obj.cells #[Value.int .i64 0, Value.int .i64 0, Value.slice none 0 0] 31)) (hA.mk M0 hB (.inr (Nat.le_refl _))) (Nat.le_trans hB M0.size) hn0 (h.mk M0 hB' (.inr (Nat.le_refl _))) (Nat.le_trans hB' M0.size) hn hc0 hnc hz ht hb hr hi ho hAs (fun A C w1 m1 h1 => (implMay1 a0 a1 n0 c0 n1 c1 B zA zl p x0 x1 A n C w1.heap.size hs r i o 0 0 w1 (hA.mk (M0.trans m1) hB (.inr (Nat.le_refl _))) (hl.mk (M0.trans m1) hB (.inr (Nat.le_refl _))) (Nat.le_trans hB (M0.trans m1).size) hn0 hn1 h1 (Nat.le_refl _) hn hz ht hb hf ((M0.trans m1).cellAt hg)).mono fun e w' q => ⟨by rw [q.1, QV], q.2⟩)
  clear hz hf ht hb hg QV
  go_enter Tryz.func21, Tryz.ntmps21
  go_wp2_with fail
  generalize ((((w.alloc (Obj.cells #[Value.slice a0 n0 c0, Value.slice a1 n1 c1] 37)).alloc (Obj.cells #[Value.int .i64 p.len, Value.int .i64 p.denied, Value.int .i64 p.closed, Value.int .i64 p.life] 39)).alloc (Obj.cells #[Value.int .i64 x0, Value.int .i64 x1, Value.slice a n c] 31)).alloc (Obj.cells #[Value.int .i64 0, Value.int .i64 0, Value.slice none 0 0] 31)) = WW at *
  refine KG.mono ?_
  rintro e w2 ⟨A, N, C, rfl, ⟨hca, hcb⟩, hown, m2⟩
  replace r0 := m2.cellAt r0
  replace r1 := m2.cellAt r1
  replace r2 := m2.cellAt r2
  replace fR := fun qq => (m2.frozen (b := w.heap.size + 1 + 1 + 1) (o := qq) (by omega) (.inr (Nat.zero_le _))).trans (fR qq)
  have M := M0.trans m2
  have ltR : w.heap.size + 1 + 1 + 1 < WW.heap.size := by omega
  have leR : w.heap.size ≤ w.heap.size + 1 + 1 + 1 := by omega
  go_wp2_with fail
  replace r0 := World.cell?_setCell_same _ _ (.int .i64 x0) r0
  replace r1 := cell_set r1 ⟨w.heap.size + 1 + 1 + 1, 0, none⟩ (.int .i64 x0) (.inr (by simp))
  replace r2 := cell_set r2 ⟨w.heap.size + 1 + 1 + 1, 0, none⟩ (.int .i64 x0) (.inr (by simp))
  replace hown := OwnR.set hown ⟨w.heap.size + 1 + 1 + 1, 0, none⟩ (.int .i64 x0) (.inl ltR)
  replace M := M.put ⟨w.heap.size + 1 + 1 + 1, 0, none⟩ (.int .i64 x0) leR
  replace fR := fun qq => frozen_set (fR qq) ⟨w.heap.size + 1 + 1 + 1, 0, none⟩ (.int .i64 x0)
  replace r0 := cell_set r0 ⟨w.heap.size + 1 + 1 + 1, 1, none⟩ (.int .i64 x1) (.inr (by simp))
  replace r1 := World.cell?_setCell_same _ _ (.int .i64 x1) r1
  replace r2 := cell_set r2 ⟨w.heap.size + 1 + 1 + 1, 1, none⟩ (.int .i64 x1) (.inr (by simp))
  replace hown := OwnR.set hown ⟨w.heap.size + 1 + 1 + 1, 1, none⟩ (.int .i64 x1) (.inl ltR)
  replace M := M.put ⟨w.heap.size + 1 + 1 + 1, 1, none⟩ (.int .i64 x1) leR
  replace fR := fun qq => frozen_set (fR qq) ⟨w.heap.size + 1 + 1 + 1, 1, none⟩ (.int .i64 x1)
  replace r0 := cell_set r0 ⟨w.heap.size + 1 + 1 + 1, 2, none⟩ (.slice A N C) (.inr (by simp))
  replace r1 := cell_set r1 ⟨w.heap.size + 1 + 1 + 1, 2, none⟩ (.slice A N C) (.inr (by simp))
  replace r2 := World.cell?_setCell_same _ _ (.slice A N C) r2
  replace hown := OwnR.set hown ⟨w.heap.size + 1 + 1 + 1, 2, none⟩ (.slice A N C) (.inl ltR)
  replace M := M.put ⟨w.heap.size + 1 + 1 + 1, 2, none⟩ (.slice A N C) leR
  have zF : (((w2.setCell ⟨w.heap.size + 1 + 1 + 1, 0, none⟩ (.int .i64 x0)).setCell ⟨w.heap.size + 1 + 1 + 1, 1, none⟩ (.int .i64 x1)).setCell ⟨w.heap.size + 1 + 1 + 1, 2, none⟩ (.slice A N C)).heap.size = w2.heap.size := by simp only [World.size_set]
  generalize (((w2.setCell ⟨w.heap.size + 1 + 1 + 1, 0, none⟩ (.int .i64 x0)).setCell ⟨w.heap.size + 1 + 1 + 1, 1, none⟩ (.int .i64 x1)).setCell ⟨w.heap.size + 1 + 1 + 1, 2, none⟩ (.slice A N C)) = wF at *
  exact bodyPost_ret (v := .tuple #[.agg #[.int .i64 x0, .int .i64 x1, .slice A N C], .bool (exB n0 zA zl n1 p x0 x1 hs n r i o)]) (by simp [results, Tryz.results21, go_sem, r0, r1, r2]) rfl ⟨_, _, _, rfl, ⟨hca, hcb⟩, hown.wide (by omega) (by omega), M⟩
end Go.Proofs.YtbbcpdgdihdmiaaGreatDoor
