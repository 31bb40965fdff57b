
/- Originate of the program. -/
import Derived.Test.YtbbcpdgdihdmiaaGreatDoorGrowI
namespace Go.Proofs.YtbbcpdgdihdmiaaGreatDoor
open Go.ChangeShapes Go.WideShapes Go.ChangeAt Go.RowKit
set_option linter.unusedVariables false
set_option maxRecDepth 100000 in
set_option maxHeartbeats 4000000 in
theorem implMay0 (a0 a1 : Option Addr) (n0 c0 n1 c1 B : Nat) (zA : List TAS) (zl : List TLink) (p : TPolicy) (x0 x1 : Int) (a : Option Addr) (n c B' : Nat) (hs : List THop) (r i o y z : Int) (w : World) (hA : HasAS w B a0 n0 zA) (hl : HasLink w B a1 n1 zl) (hB : B ≤ w.heap.size) (hn0 : n0 ≤ 1048576) (hn1 : n1 ≤ 1048576) (h : HasHop w B' a n hs) (hB' : B' ≤ w.heap.size) (hn : n ≤ 1048576) (hz : ∀ y ∈ zA, TAS.fits y) (ht : (Lit.int .i64 x0).wf = true) (hb : (Lit.int .i64 x1).wf = true) (hf : ∀ y ∈ hs, THop.fits y) (hg : w.cell? ⟨0, 0, none⟩ = some (.iface 161 (.agg #[.pointer (some ⟨1, 139, none⟩)]))) :
    Calls Tryz.prog 69 #[.agg #[.slice a0 n0 c0, .slice a1 n1 c1], .agg #[.int .i64 p.len, .int .i64 p.denied, .int .i64 p.closed, .int .i64 p.life], .agg #[.int .i64 x0, .int .i64 x1, .slice a n c], .agg #[.int .i64 r, .int .i64 i, .int .i64 o, .int .i64 y, .int .i64 z], .int .i64 0] w fun e w' => e = .returned (.bool (polB p hs n o && coreB zA n0 r && inB o 1 6 && (kindOf zl r o n1 == 1 || kindOf zl r o n1 == 2) && inB x0 0 1000000 && inB x1 0 2147483646)) ∧ Mk0 w w' := by
  have M0 := (((Mk.alloc w (Obj.cells #[Value.slice a0 n0 c0, Value.slice a1 n1 c1] 37)).new (Obj.cells #[Value.int .i64 p.len, Value.int .i64 p.denied, Value.int .i64 p.closed, Value.int .i64 p.life] 39)).new (Obj.cells #[Value.int .i64 x0, Value.int .i64 x1, Value.slice a n c] 31)).new (Obj.cells #[Value.int .i64 r, Value.int .i64 i, Value.int .i64 o, Value.int .i64 y, Value.int .i64 z] 72)
  have k0 : ((((w.alloc (Obj.cells #[Value.slice a0 n0 c0, Value.slice a1 n1 c1] 37)).alloc (Obj.cells #[Value.int .i64 p.len, Value.int .i64 p.denied, Value.int .i64 p.closed, Value.int .i64 p.life] 39)).alloc (Obj.cells #[Value.int .i64 x0, Value.int .i64 x1, Value.slice a n c] 31)).alloc (Obj.cells #[Value.int .i64 r, Value.int .i64 i, Value.int .i64 o, Value.int .i64 y, Value.int .i64 z] 72)).cell? ⟨w.heap.size, 0, none⟩ = some (.slice a0 n0 c0) := by simp [go_sem]
  have k1 : ((((w.alloc (Obj.cells #[Value.slice a0 n0 c0, Value.slice a1 n1 c1] 37)).alloc (Obj.cells #[Value.int .i64 p.len, Value.int .i64 p.denied, Value.int .i64 p.closed, Value.int .i64 p.life] 39)).alloc (Obj.cells #[Value.int .i64 x0, Value.int .i64 x1, Value.slice a n c] 31)).alloc (Obj.cells #[Value.int .i64 r, Value.int .i64 i, Value.int .i64 o, Value.int .i64 y, Value.int .i64 z] 72)).cell? ⟨w.heap.size, 1, none⟩ = some (.slice a1 n1 c1) := by simp [go_sem]
  have p0 : ((((w.alloc (Obj.cells #[Value.slice a0 n0 c0, Value.slice a1 n1 c1] 37)).alloc (Obj.cells #[Value.int .i64 p.len, Value.int .i64 p.denied, Value.int .i64 p.closed, Value.int .i64 p.life] 39)).alloc (Obj.cells #[Value.int .i64 x0, Value.int .i64 x1, Value.slice a n c] 31)).alloc (Obj.cells #[Value.int .i64 r, Value.int .i64 i, Value.int .i64 o, Value.int .i64 y, Value.int .i64 z] 72)).cell? ⟨w.heap.size + 1, 0, none⟩ = some (.int .i64 p.len) := by simp [go_sem]
  have p1 : ((((w.alloc (Obj.cells #[Value.slice a0 n0 c0, Value.slice a1 n1 c1] 37)).alloc (Obj.cells #[Value.int .i64 p.len, Value.int .i64 p.denied, Value.int .i64 p.closed, Value.int .i64 p.life] 39)).alloc (Obj.cells #[Value.int .i64 x0, Value.int .i64 x1, Value.slice a n c] 31)).alloc (Obj.cells #[Value.int .i64 r, Value.int .i64 i, Value.int .i64 o, Value.int .i64 y, Value.int .i64 z] 72)).cell? ⟨w.heap.size + 1, 1, none⟩ = some (.int .i64 p.denied) := by simp [go_sem]
  have p2 : ((((w.alloc (Obj.cells #[Value.slice a0 n0 c0, Value.slice a1 n1 c1] 37)).alloc (Obj.cells #[Value.int .i64 p.len, Value.int .i64 p.denied, Value.int .i64 p.closed, Value.int .i64 p.life] 39)).alloc (Obj.cells #[Value.int .i64 x0, Value.int .i64 x1, Value.slice a n c] 31)).alloc (Obj.cells #[Value.int .i64 r, Value.int .i64 i, Value.int .i64 o, Value.int .i64 y, Value.int .i64 z] 72)).cell? ⟨w.heap.size + 1, 2, none⟩ = some (.int .i64 p.closed) := by simp [go_sem]
  have p3 : ((((w.alloc (Obj.cells #[Value.slice a0 n0 c0, Value.slice a1 n1 c1] 37)).alloc (Obj.cells #[Value.int .i64 p.len, Value.int .i64 p.denied, Value.int .i64 p.closed, Value.int .i64 p.life] 39)).alloc (Obj.cells #[Value.int .i64 x0, Value.int .i64 x1, Value.slice a n c] 31)).alloc (Obj.cells #[Value.int .i64 r, Value.int .i64 i, Value.int .i64 o, Value.int .i64 y, Value.int .i64 z] 72)).cell? ⟨w.heap.size + 1, 3, none⟩ = some (.int .i64 p.life) := by simp [go_sem]
  have j0 : ((((w.alloc (Obj.cells #[Value.slice a0 n0 c0, Value.slice a1 n1 c1] 37)).alloc (Obj.cells #[Value.int .i64 p.len, Value.int .i64 p.denied, Value.int .i64 p.closed, Value.int .i64 p.life] 39)).alloc (Obj.cells #[Value.int .i64 x0, Value.int .i64 x1, Value.slice a n c] 31)).alloc (Obj.cells #[Value.int .i64 r, Value.int .i64 i, Value.int .i64 o, Value.int .i64 y, Value.int .i64 z] 72)).cell? ⟨w.heap.size + 1 + 1, 0, none⟩ = some (.int .i64 x0) := by simp [go_sem]
  have j1 : ((((w.alloc (Obj.cells #[Value.slice a0 n0 c0, Value.slice a1 n1 c1] 37)).alloc (Obj.cells #[Value.int .i64 p.len, Value.int .i64 p.denied, Value.int .i64 p.closed, Value.int .i64 p.life] 39)).alloc (Obj.cells #[Value.int .i64 x0, Value.int .i64 x1, Value.slice a n c] 31)).alloc (Obj.cells #[Value.int .i64 r, Value.int .i64 i, Value.int .i64 o, Value.int .i64 y, Value.int .i64 z] 72)).cell? ⟨w.heap.size + 1 + 1, 1, none⟩ = some (.int .i64 x1) := by simp [go_sem]
  have j2 : ((((w.alloc (Obj.cells #[Value.slice a0 n0 c0, Value.slice a1 n1 c1] 37)).alloc (Obj.cells #[Value.int .i64 p.len, Value.int .i64 p.denied, Value.int .i64 p.closed, Value.int .i64 p.life] 39)).alloc (Obj.cells #[Value.int .i64 x0, Value.int .i64 x1, Value.slice a n c] 31)).alloc (Obj.cells #[Value.int .i64 r, Value.int .i64 i, Value.int .i64 o, Value.int .i64 y, Value.int .i64 z] 72)).cell? ⟨w.heap.size + 1 + 1, 2, none⟩ = some (.slice a n c) := by simp [go_sem]
  have q0 : ((((w.alloc (Obj.cells #[Value.slice a0 n0 c0, Value.slice a1 n1 c1] 37)).alloc (Obj.cells #[Value.int .i64 p.len, Value.int .i64 p.denied, Value.int .i64 p.closed, Value.int .i64 p.life] 39)).alloc (Obj.cells #[Value.int .i64 x0, Value.int .i64 x1, Value.slice a n c] 31)).alloc (Obj.cells #[Value.int .i64 r, Value.int .i64 i, Value.int .i64 o, Value.int .i64 y, Value.int .i64 z] 72)).cell? ⟨w.heap.size + 1 + 1 + 1, 0, none⟩ = some (.int .i64 r) := by simp [go_sem]
  have q1 : ((((w.alloc (Obj.cells #[Value.slice a0 n0 c0, Value.slice a1 n1 c1] 37)).alloc (Obj.cells #[Value.int .i64 p.len, Value.int .i64 p.denied, Value.int .i64 p.closed, Value.int .i64 p.life] 39)).alloc (Obj.cells #[Value.int .i64 x0, Value.int .i64 x1, Value.slice a n c] 31)).alloc (Obj.cells #[Value.int .i64 r, Value.int .i64 i, Value.int .i64 o, Value.int .i64 y, Value.int .i64 z] 72)).cell? ⟨w.heap.size + 1 + 1 + 1, 1, none⟩ = some (.int .i64 i) := by simp [go_sem]
  have q2 : ((((w.alloc (Obj.cells #[Value.slice a0 n0 c0, Value.slice a1 n1 c1] 37)).alloc (Obj.cells #[Value.int .i64 p.len, Value.int .i64 p.denied, Value.int .i64 p.closed, Value.int .i64 p.life] 39)).alloc (Obj.cells #[Value.int .i64 x0, Value.int .i64 x1, Value.slice a n c] 31)).alloc (Obj.cells #[Value.int .i64 r, Value.int .i64 i, Value.int .i64 o, Value.int .i64 y, Value.int .i64 z] 72)).cell? ⟨w.heap.size + 1 + 1 + 1, 2, none⟩ = some (.int .i64 o) := by simp [go_sem]
  have q3 : ((((w.alloc (Obj.cells #[Value.slice a0 n0 c0, Value.slice a1 n1 c1] 37)).alloc (Obj.cells #[Value.int .i64 p.len, Value.int .i64 p.denied, Value.int .i64 p.closed, Value.int .i64 p.life] 39)).alloc (Obj.cells #[Value.int .i64 x0, Value.int .i64 x1, Value.slice a n c] 31)).alloc (Obj.cells #[Value.int .i64 r, Value.int .i64 i, Value.int .i64 o, Value.int .i64 y, Value.int .i64 z] 72)).cell? ⟨w.heap.size + 1 + 1 + 1, 3, none⟩ = some (.int .i64 y) := by simp [go_sem]
  have q4 : ((((w.alloc (Obj.cells #[Value.slice a0 n0 c0, Value.slice a1 n1 c1] 37)).alloc (Obj.cells #[Value.int .i64 p.len, Value.int .i64 p.denied, Value.int .i64 p.closed, Value.int .i64 p.life] 39)).alloc (Obj.cells #[Value.int .i64 x0, Value.int .i64 x1, Value.slice a n c] 31)).alloc (Obj.cells #[Value.int .i64 r, Value.int .i64 i, Value.int .i64 o, Value.int .i64 y, Value.int .i64 z] 72)).cell? ⟨w.heap.size + 1 + 1 + 1, 4, none⟩ = some (.int .i64 z) := by simp [go_sem]
  have HZ := Lib.hid hz
  have HF := Lib.hid hf
  have HT := Lib.hid ht
  have HBT := Lib.hid hb
  clear hz hf ht hb
  replace hg := M0.cellAt hg
  go_enter Tryz.func69, Tryz.ntmps69
  go_wp2_with fail
  generalize ((((w.alloc (Obj.cells #[Value.slice a0 n0 c0, Value.slice a1 n1 c1] 37)).alloc (Obj.cells #[Value.int .i64 p.len, Value.int .i64 p.denied, Value.int .i64 p.closed, Value.int .i64 p.life] 39)).alloc (Obj.cells #[Value.int .i64 x0, Value.int .i64 x1, Value.slice a n c] 31)).alloc (Obj.cells #[Value.int .i64 r, Value.int .i64 i, Value.int .i64 o, Value.int .i64 y, Value.int .i64 z] 72)) = WW at *
  refine (implAllows p x0 x1 a n c B' hs o _ (h.mk M0 hB' (.inr (Nat.le_refl _))) (Nat.le_trans hB' M0.size) hn).mono ?_
  rintro e w2 ⟨he, m2⟩
  have M2 := M0.trans m2
  cases q1 : polB p hs n o
  · have HR := Lib.hid (show (polB p hs n o && coreB zA n0 r && inB o 1 6 && (kindOf zl r o n1 == 1 || kindOf zl r o n1 == 2) && inB x0 0 1000000 && inB x1 0 2147483646) = false by rw [q1]; first | done | rfl | simp)
    rw [q1] at he
    subst he
    clear q1
    go_wp2_with fail
    go_ret
    exact ⟨retB HR.out.symm, M2⟩
  · have Q1 := Lib.hid q1
    rw [q1] at he
    subst he
    clear q1
    replace k0 := m2.cellAt k0
    replace k1 := m2.cellAt k1
    replace p0 := m2.cellAt p0
    replace p1 := m2.cellAt p1
    replace p2 := m2.cellAt p2
    replace p3 := m2.cellAt p3
    replace j0 := m2.cellAt j0
    replace j1 := m2.cellAt j1
    replace j2 := m2.cellAt j2
    replace q0 := m2.cellAt q0
    replace q1 := m2.cellAt q1
    replace q2 := m2.cellAt q2
    replace q3 := m2.cellAt q3
    replace q4 := m2.cellAt q4
    replace hg := m2.cellAt hg
    go_wp2_with fail
    refine (implKind a0 a1 n0 c0 n1 c1 B zl r o _ (hl.mk M2 hB (.inr (Nat.le_refl _))) (Nat.le_trans hB M2.size) hn1).mono ?_
    rintro e w3 ⟨he, m3⟩
    have M3 := M2.trans m3
    obtain ⟨v, hv⟩ : ∃ v, Hid (v = kindOf zl r o n1) := ⟨_, Lib.hid rfl⟩
    rw [← hv.out] at he
    subst he
    replace k0 := m3.cellAt k0
    replace k1 := m3.cellAt k1
    replace p0 := m3.cellAt p0
    replace p1 := m3.cellAt p1
    replace p2 := m3.cellAt p2
    replace p3 := m3.cellAt p3
    replace j0 := m3.cellAt j0
    replace j1 := m3.cellAt j1
    replace j2 := m3.cellAt j2
    replace q0 := m3.cellAt q0
    replace q1 := m3.cellAt q1
    replace q2 := m3.cellAt q2
    replace q3 := m3.cellAt q3
    replace q4 := m3.cellAt q4
    replace hg := m3.cellAt hg
    go_wp2_with fail
    refine (implIsCore a0 a1 n0 c0 n1 c1 B zA r _ (hA.mk M3 hB (.inr (Nat.le_refl _))) (Nat.le_trans hB M3.size) hn0).mono ?_
    rintro e w4 ⟨he, m4⟩
    have M4 := M3.trans m4
    cases q2 : coreB zA n0 r
    · have HR := Lib.hid (show (polB p hs n o && coreB zA n0 r && inB o 1 6 && (kindOf zl r o n1 == 1 || kindOf zl r o n1 == 2) && inB x0 0 1000000 && inB x1 0 2147483646) = false by rw [← hv.out, Q1.out, q2]; first | done | rfl | simp)
      rw [q2] at he
      subst he
      clear q2
      go_wp2_with fail
      go_ret
      exact ⟨retB HR.out.symm, M4⟩
    · have Q2 := Lib.hid q2
      rw [q2] at he
      subst he
      clear q2
      replace k0 := m4.cellAt k0
      replace k1 := m4.cellAt k1
      replace p0 := m4.cellAt p0
      replace p1 := m4.cellAt p1
      replace p2 := m4.cellAt p2
      replace p3 := m4.cellAt p3
      replace j0 := m4.cellAt j0
      replace j1 := m4.cellAt j1
      replace j2 := m4.cellAt j2
      replace q0 := m4.cellAt q0
      replace q1 := m4.cellAt q1
      replace q2 := m4.cellAt q2
      replace q3 := m4.cellAt q3
      replace q4 := m4.cellAt q4
      replace hg := m4.cellAt hg
      go_wp2_with fail
      refine (implIsIf o _).mono ?_
      rintro e w' ⟨he, rfl⟩
      cases q3 : inB o 1 6
      · have HR := Lib.hid (show (polB p hs n o && coreB zA n0 r && inB o 1 6 && (kindOf zl r o n1 == 1 || kindOf zl r o n1 == 2) && inB x0 0 1000000 && inB x1 0 2147483646) = false by rw [← hv.out, Q1.out, Q2.out, q3]; first | done | rfl | simp)
        rw [q3] at he
        subst he
        clear q3
        go_wp2_with fail
        go_ret
        exact ⟨retB HR.out.symm, M4⟩
      · have Q3 := Lib.hid q3
        rw [q3] at he
        subst he
        clear q3
        cases q4 : (v == 1)
        · cases q5 : (v == 2)
          · have HR := Lib.hid (show (polB p hs n o && coreB zA n0 r && inB o 1 6 && (kindOf zl r o n1 == 1 || kindOf zl r o n1 == 2) && inB x0 0 1000000 && inB x1 0 2147483646) = false by rw [← hv.out, Q1.out, Q2.out, Q3.out, q4, q5]; first | done | rfl | simp)
            go_wp2_with fail
            go_ret
            exact ⟨retB HR.out.symm, M4⟩
          · have Q4 := Lib.hid (show (v == 1 || v == 2) = true by rw [q4, q5]; rfl)
            go_wp2_with fail
            clear q4 q5
            refine (implTime x0 _).mono ?_
            rintro e w' ⟨he, rfl⟩
            cases q6 : inB x0 0 1000000
            · have HR := Lib.hid (show (polB p hs n o && coreB zA n0 r && inB o 1 6 && (kindOf zl r o n1 == 1 || kindOf zl r o n1 == 2) && inB x0 0 1000000 && inB x1 0 2147483646) = false by rw [← hv.out, Q1.out, Q2.out, Q3.out, Q4.out, q6]; first | done | rfl | simp)
              rw [q6] at he
              subst he
              clear q6
              go_wp2_with fail
              go_ret
              exact ⟨retB HR.out.symm, M4⟩
            · rw [q6] at he
              subst he
              have HR := Lib.hid (show (polB p hs n o && coreB zA n0 r && inB o 1 6 && (kindOf zl r o n1 == 1 || kindOf zl r o n1 == 2) && inB x0 0 1000000 && inB x1 0 2147483646) = inB x1 0 2147483646 by rw [← hv.out, Q1.out, Q2.out, Q3.out, Q4.out, q6]; first | done | rfl | simp)
              clear q6
              go_wp2_with fail
              refine (implRes x1 _).mono ?_
              rintro e w' ⟨rfl, rfl⟩
              go_wp2_with fail
              go_ret
              exact ⟨retB HR.out.symm, M4⟩
        · have Q4 := Lib.hid (show (v == 1 || v == 2) = true by rw [q4]; rfl)
          go_wp2_with fail
          clear q4
          refine (implTime x0 _).mono ?_
          rintro e w' ⟨he, rfl⟩
          cases q6 : inB x0 0 1000000
          · have HR := Lib.hid (show (polB p hs n o && coreB zA n0 r && inB o 1 6 && (kindOf zl r o n1 == 1 || kindOf zl r o n1 == 2) && inB x0 0 1000000 && inB x1 0 2147483646) = false by rw [← hv.out, Q1.out, Q2.out, Q3.out, Q4.out, q6]; first | done | rfl | simp)
            rw [q6] at he
            subst he
            clear q6
            go_wp2_with fail
            go_ret
            exact ⟨retB HR.out.symm, M4⟩
          · rw [q6] at he
            subst he
            have HR := Lib.hid (show (polB p hs n o && coreB zA n0 r && inB o 1 6 && (kindOf zl r o n1 == 1 || kindOf zl r o n1 == 2) && inB x0 0 1000000 && inB x1 0 2147483646) = inB x1 0 2147483646 by rw [← hv.out, Q1.out, Q2.out, Q3.out, Q4.out, q6]; first | done | rfl | simp)
            clear q6
            go_wp2_with fail
            refine (implRes x1 _).mono ?_
            rintro e w' ⟨rfl, rfl⟩
            go_wp2_with fail
            go_ret
            exact ⟨retB HR.out.symm, M4⟩

def orT : Bool → Int → Int
  | true, v => v
  | false, _ => 0
def orB (zA : List TAS) (n0 : Nat) (zl : List TLink) (n1 : Nat) (p : TPolicy) (r o ts bt : Int) : Bool :=
  polB p [] 0 o && coreB zA n0 r && inB o 1 6 && (kindOf zl r o n1 == 1 || kindOf zl r o n1 == 2) && inB ts 0 1000000 && inB bt 0 2147483646
set_option maxRecDepth 100000 in
set_option maxHeartbeats 40000000 in
theorem implOriginate (a0 a1 : Option Addr) (n0 c0 n1 c1 B : Nat) (zA : List TAS) (zl : List TLink) (p : TPolicy) (r o ts bt : Int) (w : World) (hA : HasAS w B a0 n0 zA) (hl : HasLink w B a1 n1 zl) (hB : B ≤ w.heap.size) (hn0 : n0 ≤ 1048576) (hn1 : n1 ≤ 1048576) (hz : ∀ y ∈ zA, TAS.fits y) (ht : (Lit.int .i64 ts).wf = true) (hb : (Lit.int .i64 bt).wf = true) (hr : (Lit.int .i64 r).wf = true) (ho : (Lit.int .i64 o).wf = true) (hg : w.cell? ⟨0, 0, none⟩ = some (.iface 161 (.agg #[.pointer (some ⟨1, 139, none⟩)]))) :
    Calls Tryz.prog 12 #[.agg #[.slice a0 n0 c0, .slice a1 n1 c1], .agg #[.int .i64 p.len, .int .i64 p.denied, .int .i64 p.closed, .int .i64 p.life], .int .i64 r, .int .i64 o, .int .i64 ts, .int .i64 bt] w (OutTSegment (orT (orB zA n0 zl n1 p r o ts bt) ts) (orT (orB zA n0 zl n1 p r o ts bt) bt) (growR zA p ts bt [] 0 r 0 o (orB zA n0 zl n1 p r o ts bt)) (orB zA n0 zl n1 p r o ts bt) w) := by
  have M0 := (((Mk.alloc w (Obj.cells #[Value.slice a0 n0 c0, Value.slice a1 n1 c1] 37)).new (Obj.cells #[Value.int .i64 p.len, Value.int .i64 p.denied, Value.int .i64 p.closed, Value.int .i64 p.life] 39)).new (Obj.cells #[Value.int .i64 0, Value.int .i64 0, Value.slice none 0 0] 31)).new (Obj.cells #[Value.int .i64 r, Value.int .i64 0, Value.int .i64 o, Value.int .i64 0, Value.int .i64 0] 72)
  have hAs : orB zA n0 zl n1 p r o ts bt = true → isAsB n0 r = true := fun q => by unfold orB at q; simp only [Bool.and_eq_true] at q; have q2 := q.1.1.1.1.2; unfold coreB at q2; simp only [Bool.and_eq_true] at q2; exact q2.1
  have k0 : ((((w.alloc (Obj.cells #[Value.slice a0 n0 c0, Value.slice a1 n1 c1] 37)).alloc (Obj.cells #[Value.int .i64 p.len, Value.int .i64 p.denied, Value.int .i64 p.closed, Value.int .i64 p.life] 39)).alloc (Obj.cells #[Value.int .i64 0, Value.int .i64 0, Value.slice none 0 0] 31)).alloc (Obj.cells #[Value.int .i64 r, Value.int .i64 0, Value.int .i64 o, Value.int .i64 0, Value.int .i64 0] 72)).cell? ⟨w.heap.size, 0, none⟩ = some (.slice a0 n0 c0) := by simp [go_sem]
  have k1 : ((((w.alloc (Obj.cells #[Value.slice a0 n0 c0, Value.slice a1 n1 c1] 37)).alloc (Obj.cells #[Value.int .i64 p.len, Value.int .i64 p.denied, Value.int .i64 p.closed, Value.int .i64 p.life] 39)).alloc (Obj.cells #[Value.int .i64 0, Value.int .i64 0, Value.slice none 0 0] 31)).alloc (Obj.cells #[Value.int .i64 r, Value.int .i64 0, Value.int .i64 o, Value.int .i64 0, Value.int .i64 0] 72)).cell? ⟨w.heap.size, 1, none⟩ = some (.slice a1 n1 c1) := by simp [go_sem]
  have p0 : ((((w.alloc (Obj.cells #[Value.slice a0 n0 c0, Value.slice a1 n1 c1] 37)).alloc (Obj.cells #[Value.int .i64 p.len, Value.int .i64 p.denied, Value.int .i64 p.closed, Value.int .i64 p.life] 39)).alloc (Obj.cells #[Value.int .i64 0, Value.int .i64 0, Value.slice none 0 0] 31)).alloc (Obj.cells #[Value.int .i64 r, Value.int .i64 0, Value.int .i64 o, Value.int .i64 0, Value.int .i64 0] 72)).cell? ⟨w.heap.size + 1, 0, none⟩ = some (.int .i64 p.len) := by simp [go_sem]
  have p1 : ((((w.alloc (Obj.cells #[Value.slice a0 n0 c0, Value.slice a1 n1 c1] 37)).alloc (Obj.cells #[Value.int .i64 p.len, Value.int .i64 p.denied, Value.int .i64 p.closed, Value.int .i64 p.life] 39)).alloc (Obj.cells #[Value.int .i64 0, Value.int .i64 0, Value.slice none 0 0] 31)).alloc (Obj.cells #[Value.int .i64 r, Value.int .i64 0, Value.int .i64 o, Value.int .i64 0, Value.int .i64 0] 72)).cell? ⟨w.heap.size + 1, 1, none⟩ = some (.int .i64 p.denied) := by simp [go_sem]
  have p2 : ((((w.alloc (Obj.cells #[Value.slice a0 n0 c0, Value.slice a1 n1 c1] 37)).alloc (Obj.cells #[Value.int .i64 p.len, Value.int .i64 p.denied, Value.int .i64 p.closed, Value.int .i64 p.life] 39)).alloc (Obj.cells #[Value.int .i64 0, Value.int .i64 0, Value.slice none 0 0] 31)).alloc (Obj.cells #[Value.int .i64 r, Value.int .i64 0, Value.int .i64 o, Value.int .i64 0, Value.int .i64 0] 72)).cell? ⟨w.heap.size + 1, 2, none⟩ = some (.int .i64 p.closed) := by simp [go_sem]
  have p3 : ((((w.alloc (Obj.cells #[Value.slice a0 n0 c0, Value.slice a1 n1 c1] 37)).alloc (Obj.cells #[Value.int .i64 p.len, Value.int .i64 p.denied, Value.int .i64 p.closed, Value.int .i64 p.life] 39)).alloc (Obj.cells #[Value.int .i64 0, Value.int .i64 0, Value.slice none 0 0] 31)).alloc (Obj.cells #[Value.int .i64 r, Value.int .i64 0, Value.int .i64 o, Value.int .i64 0, Value.int .i64 0] 72)).cell? ⟨w.heap.size + 1, 3, none⟩ = some (.int .i64 p.life) := by simp [go_sem]
  have r0 : ((((w.alloc (Obj.cells #[Value.slice a0 n0 c0, Value.slice a1 n1 c1] 37)).alloc (Obj.cells #[Value.int .i64 p.len, Value.int .i64 p.denied, Value.int .i64 p.closed, Value.int .i64 p.life] 39)).alloc (Obj.cells #[Value.int .i64 0, Value.int .i64 0, Value.slice none 0 0] 31)).alloc (Obj.cells #[Value.int .i64 r, Value.int .i64 0, Value.int .i64 o, Value.int .i64 0, Value.int .i64 0] 72)).cell? ⟨w.heap.size + 1 + 1, 0, none⟩ = some (.int .i64 0) := by simp [go_sem]
  have r1 : ((((w.alloc (Obj.cells #[Value.slice a0 n0 c0, Value.slice a1 n1 c1] 37)).alloc (Obj.cells #[Value.int .i64 p.len, Value.int .i64 p.denied, Value.int .i64 p.closed, Value.int .i64 p.life] 39)).alloc (Obj.cells #[Value.int .i64 0, Value.int .i64 0, Value.slice none 0 0] 31)).alloc (Obj.cells #[Value.int .i64 r, Value.int .i64 0, Value.int .i64 o, Value.int .i64 0, Value.int .i64 0] 72)).cell? ⟨w.heap.size + 1 + 1, 1, none⟩ = some (.int .i64 0) := by simp [go_sem]
  have r2 : ((((w.alloc (Obj.cells #[Value.slice a0 n0 c0, Value.slice a1 n1 c1] 37)).alloc (Obj.cells #[Value.int .i64 p.len, Value.int .i64 p.denied, Value.int .i64 p.closed, Value.int .i64 p.life] 39)).alloc (Obj.cells #[Value.int .i64 0, Value.int .i64 0, Value.slice none 0 0] 31)).alloc (Obj.cells #[Value.int .i64 r, Value.int .i64 0, Value.int .i64 o, Value.int .i64 0, Value.int .i64 0] 72)).cell? ⟨w.heap.size + 1 + 1, 2, none⟩ = some (.slice none 0 0) := by simp [go_sem]
  have hs4 : ((((w.alloc (Obj.cells #[Value.slice a0 n0 c0, Value.slice a1 n1 c1] 37)).alloc (Obj.cells #[Value.int .i64 p.len, Value.int .i64 p.denied, Value.int .i64 p.closed, Value.int .i64 p.life] 39)).alloc (Obj.cells #[Value.int .i64 0, Value.int .i64 0, Value.slice none 0 0] 31)).alloc (Obj.cells #[Value.int .i64 r, Value.int .i64 0, Value.int .i64 o, Value.int .i64 0, Value.int .i64 0] 72)).heap.size = w.heap.size + 1 + 1 + 1 + 1 := by simp only [World.size_alloc]
  have fR : ∀ q, ((((w.alloc (Obj.cells #[Value.slice a0 n0 c0, Value.slice a1 n1 c1] 37)).alloc (Obj.cells #[Value.int .i64 p.len, Value.int .i64 p.denied, Value.int .i64 p.closed, Value.int .i64 p.life] 39)).alloc (Obj.cells #[Value.int .i64 0, Value.int .i64 0, Value.slice none 0 0] 31)).alloc (Obj.cells #[Value.int .i64 r, Value.int .i64 0, Value.int .i64 o, Value.int .i64 0, Value.int .i64 0] 72)).frozen? ⟨w.heap.size + 1 + 1, q, none⟩ = false := fun q => by simp [go_sem]
  have KG := implGrow a0 a1 n0 c0 n1 c1 B zA p ts bt none 0 0 ((((w.alloc (Obj.cells #[Value.slice a0 n0 c0, Value.slice a1 n1 c1] 37)).alloc (Obj.cells #[Value.int .i64 p.len, Value.int .i64 p.denied, Value.int .i64 p.closed, Value.int .i64 p.life] 39)).alloc (Obj.cells #[Value.int .i64 0, Value.int .i64 0, Value.slice none 0 0] 31)).alloc (Obj.cells #[Value.int .i64 r, Value.int .i64 0, Value.int .i64 o, Value.int .i64 0, Value.int .i64 0] 72)).heap.size [] r 0 o 0 0 0 (orB zA n0 zl n1 p r o ts bt) ((((w.alloc (Obj.cells #[Value.slice a0 n0 c0, Value.slice a1 n1 c1] 37)).alloc (Obj.cells #[Value.int .i64 p.len, Value.int .i64 p.denied, Value.int .i64 p.closed, Value.int .i64 p.life] 39)).alloc (Obj.cells #[Value.int .i64 0, Value.int .i64 0, Value.slice none 0 0] 31)).alloc (Obj.cells #[Value.int .i64 r, Value.int .i64 0, Value.int .i64 o, Value.int .i64 0, Value.int .i64 0] 72)) (hA.mk M0 hB (.inr (Nat.le_refl _))) (Nat.le_trans hB M0.size) hn0 ⟨rfl, fun h => absurd h (by omega)⟩ (Nat.le_refl _) (by decide) (fun _ => rfl) (Nat.le_refl _) hz ht hb hr (by decide) ho hAs (fun A C w1 m1 h1 => (implMay0 a0 a1 n0 c0 n1 c1 B zA zl p ts bt A 0 C w1.heap.size [] r 0 o 0 0 w1 (hA.mk (M0.trans m1) hB (.inr (Nat.le_refl _))) (hl.mk (M0.trans m1) hB (.inr (Nat.le_refl _))) (Nat.le_trans hB (M0.trans m1).size) hn0 hn1 h1 (Nat.le_refl _) (by decide) hz ht hb (fun y hy => by cases hy) ((M0.trans m1).cellAt hg)).mono fun e w' q => ⟨by rw [q.1]; rfl, q.2⟩)
  clear hz ht hb hg hAs
  obtain ⟨bb, hbb⟩ : ∃ bb, Hid (bb = orB zA n0 zl n1 p r o ts bt) := ⟨_, Lib.hid rfl⟩
  rw [← hbb.out] at KG
  rw [← hbb.out]
  go_enter Tryz.func12, Tryz.ntmps12
  go_wp2_with fail
  generalize ((((w.alloc (Obj.cells #[Value.slice a0 n0 c0, Value.slice a1 n1 c1] 37)).alloc (Obj.cells #[Value.int .i64 p.len, Value.int .i64 p.denied, Value.int .i64 p.closed, Value.int .i64 p.life] 39)).alloc (Obj.cells #[Value.int .i64 0, Value.int .i64 0, Value.slice none 0 0] 31)).alloc (Obj.cells #[Value.int .i64 r, Value.int .i64 0, Value.int .i64 o, Value.int .i64 0, Value.int .i64 0] 72)) = WW at *
  refine KG.mono ?_
  rintro e w2 ⟨A, N, C, rfl, ⟨hca, hcb⟩, hown, m2⟩
  replace r0 := m2.cellAt r0
  replace r1 := m2.cellAt r1
  replace r2 := m2.cellAt r2
  replace fR := fun qq => (m2.frozen (b := w.heap.size + 1 + 1) (o := qq) (by omega) (.inr (Nat.zero_le _))).trans (fR qq)
  have M := M0.trans m2
  have ltR : w.heap.size + 1 + 1 < WW.heap.size := by omega
  have leR : w.heap.size ≤ w.heap.size + 1 + 1 := by omega
  cases bb
  · have MX := Mk.alloc w2 (Obj.cells #[Value.int .i64 ts, Value.int .i64 bt, Value.slice A N C] 31)
    have u0 : (w2.alloc (Obj.cells #[Value.int .i64 ts, Value.int .i64 bt, Value.slice A N C] 31)).cell? ⟨w2.heap.size, 0, none⟩ = some (.int .i64 ts) := by simp [go_sem]
    have u1 : (w2.alloc (Obj.cells #[Value.int .i64 ts, Value.int .i64 bt, Value.slice A N C] 31)).cell? ⟨w2.heap.size, 1, none⟩ = some (.int .i64 bt) := by simp [go_sem]
    have u2 : (w2.alloc (Obj.cells #[Value.int .i64 ts, Value.int .i64 bt, Value.slice A N C] 31)).cell? ⟨w2.heap.size, 2, none⟩ = some (.slice A N C) := by simp [go_sem]
    have r0X := MX.cellAt r0
    have r1X := MX.cellAt r1
    have r2X := MX.cellAt r2
    have zz2 := m2.size
    have fRX := fun qq => (MX.frozen (b := w.heap.size + 1 + 1) (o := qq) (by omega) (.inr (Nat.zero_le _))).trans (fR qq)
    go_wp2_with fail
    replace M := M.trans MX
    replace r0X := World.cell?_setCell_same _ _ (.int .i64 0) r0X
    replace r1X := cell_set r1X ⟨w.heap.size + 1 + 1, 0, none⟩ (.int .i64 0) (.inr (by simp))
    replace r2X := cell_set r2X ⟨w.heap.size + 1 + 1, 0, none⟩ (.int .i64 0) (.inr (by simp))
    replace M := M.put ⟨w.heap.size + 1 + 1, 0, none⟩ (.int .i64 0) leR
    replace r0X := cell_set r0X ⟨w.heap.size + 1 + 1, 1, none⟩ (.int .i64 0) (.inr (by simp))
    replace r1X := World.cell?_setCell_same _ _ (.int .i64 0) r1X
    replace r2X := cell_set r2X ⟨w.heap.size + 1 + 1, 1, none⟩ (.int .i64 0) (.inr (by simp))
    replace M := M.put ⟨w.heap.size + 1 + 1, 1, none⟩ (.int .i64 0) leR
    replace r0X := cell_set r0X ⟨w.heap.size + 1 + 1, 2, none⟩ (.slice none 0 0) (.inr (by simp))
    replace r1X := cell_set r1X ⟨w.heap.size + 1 + 1, 2, none⟩ (.slice none 0 0) (.inr (by simp))
    replace r2X := World.cell?_setCell_same _ _ (.slice none 0 0) r2X
    replace M := M.put ⟨w.heap.size + 1 + 1, 2, none⟩ (.slice none 0 0) leR
    have zF : ((((w2.alloc (Obj.cells #[Value.int .i64 ts, Value.int .i64 bt, Value.slice A N C] 31)).setCell ⟨w.heap.size + 1 + 1, 0, none⟩ (.int .i64 0)).setCell ⟨w.heap.size + 1 + 1, 1, none⟩ (.int .i64 0)).setCell ⟨w.heap.size + 1 + 1, 2, none⟩ (.slice none 0 0)).heap.size = w2.heap.size + 1 := by simp only [World.size_set, World.size_alloc]
    generalize ((((w2.alloc (Obj.cells #[Value.int .i64 ts, Value.int .i64 bt, Value.slice A N C] 31)).setCell ⟨w.heap.size + 1 + 1, 0, none⟩ (.int .i64 0)).setCell ⟨w.heap.size + 1 + 1, 1, none⟩ (.int .i64 0)).setCell ⟨w.heap.size + 1 + 1, 2, none⟩ (.slice none 0 0)) = wF at *
    exact bodyPost_ret (v := .tuple #[.agg #[.int .i64 0, .int .i64 0, .slice none 0 0], .bool false]) (by simp [results, Tryz.results12, go_sem, r0X, r1X, r2X]) rfl ⟨_, _, _, rfl, ⟨fun _ => rfl, Nat.le_refl _⟩, OwnR.none_ _ _ _ _, M⟩
  · have MX := Mk.alloc w2 (Obj.cells #[Value.int .i64 ts, Value.int .i64 bt, Value.slice A N C] 31)
    have u0 : (w2.alloc (Obj.cells #[Value.int .i64 ts, Value.int .i64 bt, Value.slice A N C] 31)).cell? ⟨w2.heap.size, 0, none⟩ = some (.int .i64 ts) := by simp [go_sem]
    have u1 : (w2.alloc (Obj.cells #[Value.int .i64 ts, Value.int .i64 bt, Value.slice A N C] 31)).cell? ⟨w2.heap.size, 1, none⟩ = some (.int .i64 bt) := by simp [go_sem]
    have u2 : (w2.alloc (Obj.cells #[Value.int .i64 ts, Value.int .i64 bt, Value.slice A N C] 31)).cell? ⟨w2.heap.size, 2, none⟩ = some (.slice A N C) := by simp [go_sem]
    have r0X := MX.cellAt r0
    have r1X := MX.cellAt r1
    have r2X := MX.cellAt r2
    have zz2 := m2.size
    have fRX := fun qq => (MX.frozen (b := w.heap.size + 1 + 1) (o := qq) (by omega) (.inr (Nat.zero_le _))).trans (fR qq)
    go_wp2_with fail
    replace M := M.trans MX
    replace hown := hown.mk MX (Nat.le_refl _) (.inr (.inr (Nat.le_refl _)))
    replace r0X := World.cell?_setCell_same _ _ (.int .i64 ts) r0X
    replace r1X := cell_set r1X ⟨w.heap.size + 1 + 1, 0, none⟩ (.int .i64 ts) (.inr (by simp))
    replace r2X := cell_set r2X ⟨w.heap.size + 1 + 1, 0, none⟩ (.int .i64 ts) (.inr (by simp))
    replace hown := OwnR.set hown ⟨w.heap.size + 1 + 1, 0, none⟩ (.int .i64 ts) (.inl ltR)
    replace M := M.put ⟨w.heap.size + 1 + 1, 0, none⟩ (.int .i64 ts) leR
    replace r0X := cell_set r0X ⟨w.heap.size + 1 + 1, 1, none⟩ (.int .i64 bt) (.inr (by simp))
    replace r1X := World.cell?_setCell_same _ _ (.int .i64 bt) r1X
    replace r2X := cell_set r2X ⟨w.heap.size + 1 + 1, 1, none⟩ (.int .i64 bt) (.inr (by simp))
    replace hown := OwnR.set hown ⟨w.heap.size + 1 + 1, 1, none⟩ (.int .i64 bt) (.inl ltR)
    replace M := M.put ⟨w.heap.size + 1 + 1, 1, none⟩ (.int .i64 bt) leR
    replace r0X := cell_set r0X ⟨w.heap.size + 1 + 1, 2, none⟩ (.slice A N C) (.inr (by simp))
    replace r1X := cell_set r1X ⟨w.heap.size + 1 + 1, 2, none⟩ (.slice A N C) (.inr (by simp))
    replace r2X := World.cell?_setCell_same _ _ (.slice A N C) r2X
    replace hown := OwnR.set hown ⟨w.heap.size + 1 + 1, 2, none⟩ (.slice A N C) (.inl ltR)
    replace M := M.put ⟨w.heap.size + 1 + 1, 2, none⟩ (.slice A N C) leR
    have zF : ((((w2.alloc (Obj.cells #[Value.int .i64 ts, Value.int .i64 bt, Value.slice A N C] 31)).setCell ⟨w.heap.size + 1 + 1, 0, none⟩ (.int .i64 ts)).setCell ⟨w.heap.size + 1 + 1, 1, none⟩ (.int .i64 bt)).setCell ⟨w.heap.size + 1 + 1, 2, none⟩ (.slice A N C)).heap.size = w2.heap.size + 1 := by simp only [World.size_set, World.size_alloc]
    generalize ((((w2.alloc (Obj.cells #[Value.int .i64 ts, Value.int .i64 bt, Value.slice A N C] 31)).setCell ⟨w.heap.size + 1 + 1, 0, none⟩ (.int .i64 ts)).setCell ⟨w.heap.size + 1 + 1, 1, none⟩ (.int .i64 bt)).setCell ⟨w.heap.size + 1 + 1, 2, none⟩ (.slice A N C)) = wF at *
    exact bodyPost_ret (v := .tuple #[.agg #[.int .i64 ts, .int .i64 bt, .slice A N C], .bool true]) (by simp [results, Tryz.results12, go_sem, r0X, r1X, r2X]) rfl ⟨_, _, _, rfl, ⟨hca, hcb⟩, hown.wide (by omega) (by omega), M⟩
end Go.Proofs.YtbbcpdgdihdmiaaGreatDoor
