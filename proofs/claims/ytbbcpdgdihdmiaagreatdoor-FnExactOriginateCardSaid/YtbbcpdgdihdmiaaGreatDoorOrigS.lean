
/- Originate of the model. -/
import Derived.Test.YtbbcpdgdihdmiaaGreatDoorGrowS
import Derived.Test.YtbbcpdgdihdmiaaGreatDoorOrigI
namespace Go.Proofs.YtbbcpdgdihdmiaaGreatDoor
open Go.ChangeShapes Go.WideShapes Go.ChangeAt Go.RowKit
set_option linter.unusedVariables false
set_option maxRecDepth 100000 in
set_option maxHeartbeats 40000000 in
theorem specOriginate (a0 a1 : Option Addr) (n0 c0 n1 c1 B : Nat) (zA : List TAS) (zl : List TLink) (p : TPolicy) (r o ts bt : Int) (w : World) (hA : HasAS w B a0 n0 zA) (hl : HasLink w B a1 n1 zl) (hB : B ≤ w.heap.size) (hn0 : n0 ≤ 1048576) (hn1 : n1 ≤ 1048576) (hz : ∀ y ∈ zA, TAS.fits y) (ht : (Lit.int .i64 ts).wf = true) (hb : (Lit.int .i64 bt).wf = true) (hr : (Lit.int .i64 r).wf = true) (ho : (Lit.int .i64 o).wf = true) :
    Calls Tryz.prog 9 #[.agg #[.slice a0 n0 c0, .slice a1 n1 c1], .agg #[.int .i64 p.len, .int .i64 p.denied, .int .i64 p.closed, .int .i64 p.life], .int .i64 r, .int .i64 o, .int .i64 ts, .int .i64 bt] w (OutTSegment (orT (orB zA n0 zl n1 p r o ts bt) ts) (orT (orB zA n0 zl n1 p r o ts bt) bt) (growR zA p ts bt [] 0 r 0 o (orB zA n0 zl n1 p r o ts bt)) (orB zA n0 zl n1 p r o ts bt) w) := by
  obtain ⟨i0, hi0, hz0, hz1, hz2⟩ := info_parts infoRHop
  have M0 := ((Mk.alloc w (Obj.cells #[Value.slice a0 n0 c0, Value.slice a1 n1 c1] 37)).new (Obj.cells #[Value.int .i64 p.len, Value.int .i64 p.denied, Value.int .i64 p.closed, Value.int .i64 p.life] 39)).new (Obj.cells #[Value.int .i64 0, Value.int .i64 0, Value.slice none 0 0] 31)
  have k0 : (((w.alloc (Obj.cells #[Value.slice a0 n0 c0, Value.slice a1 n1 c1] 37)).alloc (Obj.cells #[Value.int .i64 p.len, Value.int .i64 p.denied, Value.int .i64 p.closed, Value.int .i64 p.life] 39)).alloc (Obj.cells #[Value.int .i64 0, Value.int .i64 0, Value.slice none 0 0] 31)).cell? ⟨w.heap.size, 0, none⟩ = some (.slice a0 n0 c0) := by simp [go_sem]
  have k1 : (((w.alloc (Obj.cells #[Value.slice a0 n0 c0, Value.slice a1 n1 c1] 37)).alloc (Obj.cells #[Value.int .i64 p.len, Value.int .i64 p.denied, Value.int .i64 p.closed, Value.int .i64 p.life] 39)).alloc (Obj.cells #[Value.int .i64 0, Value.int .i64 0, Value.slice none 0 0] 31)).cell? ⟨w.heap.size, 1, none⟩ = some (.slice a1 n1 c1) := by simp [go_sem]
  have p0 : (((w.alloc (Obj.cells #[Value.slice a0 n0 c0, Value.slice a1 n1 c1] 37)).alloc (Obj.cells #[Value.int .i64 p.len, Value.int .i64 p.denied, Value.int .i64 p.closed, Value.int .i64 p.life] 39)).alloc (Obj.cells #[Value.int .i64 0, Value.int .i64 0, Value.slice none 0 0] 31)).cell? ⟨w.heap.size + 1, 0, none⟩ = some (.int .i64 p.len) := by simp [go_sem]
  have p1 : (((w.alloc (Obj.cells #[Value.slice a0 n0 c0, Value.slice a1 n1 c1] 37)).alloc (Obj.cells #[Value.int .i64 p.len, Value.int .i64 p.denied, Value.int .i64 p.closed, Value.int .i64 p.life] 39)).alloc (Obj.cells #[Value.int .i64 0, Value.int .i64 0, Value.slice none 0 0] 31)).cell? ⟨w.heap.size + 1, 1, none⟩ = some (.int .i64 p.denied) := by simp [go_sem]
  have p2 : (((w.alloc (Obj.cells #[Value.slice a0 n0 c0, Value.slice a1 n1 c1] 37)).alloc (Obj.cells #[Value.int .i64 p.len, Value.int .i64 p.denied, Value.int .i64 p.closed, Value.int .i64 p.life] 39)).alloc (Obj.cells #[Value.int .i64 0, Value.int .i64 0, Value.slice none 0 0] 31)).cell? ⟨w.heap.size + 1, 2, none⟩ = some (.int .i64 p.closed) := by simp [go_sem]
  have p3 : (((w.alloc (Obj.cells #[Value.slice a0 n0 c0, Value.slice a1 n1 c1] 37)).alloc (Obj.cells #[Value.int .i64 p.len, Value.int .i64 p.denied, Value.int .i64 p.closed, Value.int .i64 p.life] 39)).alloc (Obj.cells #[Value.int .i64 0, Value.int .i64 0, Value.slice none 0 0] 31)).cell? ⟨w.heap.size + 1, 3, none⟩ = some (.int .i64 p.life) := by simp [go_sem]
  have r0 : (((w.alloc (Obj.cells #[Value.slice a0 n0 c0, Value.slice a1 n1 c1] 37)).alloc (Obj.cells #[Value.int .i64 p.len, Value.int .i64 p.denied, Value.int .i64 p.closed, Value.int .i64 p.life] 39)).alloc (Obj.cells #[Value.int .i64 0, Value.int .i64 0, Value.slice none 0 0] 31)).cell? ⟨w.heap.size + 1 + 1, 0, none⟩ = some (.int .i64 0) := by simp [go_sem]
  have r1 : (((w.alloc (Obj.cells #[Value.slice a0 n0 c0, Value.slice a1 n1 c1] 37)).alloc (Obj.cells #[Value.int .i64 p.len, Value.int .i64 p.denied, Value.int .i64 p.closed, Value.int .i64 p.life] 39)).alloc (Obj.cells #[Value.int .i64 0, Value.int .i64 0, Value.slice none 0 0] 31)).cell? ⟨w.heap.size + 1 + 1, 1, none⟩ = some (.int .i64 0) := by simp [go_sem]
  have r2 : (((w.alloc (Obj.cells #[Value.slice a0 n0 c0, Value.slice a1 n1 c1] 37)).alloc (Obj.cells #[Value.int .i64 p.len, Value.int .i64 p.denied, Value.int .i64 p.closed, Value.int .i64 p.life] 39)).alloc (Obj.cells #[Value.int .i64 0, Value.int .i64 0, Value.slice none 0 0] 31)).cell? ⟨w.heap.size + 1 + 1, 2, none⟩ = some (.slice none 0 0) := by simp [go_sem]
  have hs3 : (((w.alloc (Obj.cells #[Value.slice a0 n0 c0, Value.slice a1 n1 c1] 37)).alloc (Obj.cells #[Value.int .i64 p.len, Value.int .i64 p.denied, Value.int .i64 p.closed, Value.int .i64 p.life] 39)).alloc (Obj.cells #[Value.int .i64 0, Value.int .i64 0, Value.slice none 0 0] 31)).heap.size = w.heap.size + 1 + 1 + 1 := by simp only [World.size_alloc]
  have fR : ∀ q, (((w.alloc (Obj.cells #[Value.slice a0 n0 c0, Value.slice a1 n1 c1] 37)).alloc (Obj.cells #[Value.int .i64 p.len, Value.int .i64 p.denied, Value.int .i64 p.closed, Value.int .i64 p.life] 39)).alloc (Obj.cells #[Value.int .i64 0, Value.int .i64 0, Value.slice none 0 0] 31)).frozen? ⟨w.heap.size + 1 + 1, q, none⟩ = false := fun q => by simp [go_sem]
  have leR : w.heap.size ≤ w.heap.size + 1 + 1 := by omega
  have HZ := Lib.hid hz
  have HT := Lib.hid ht
  have HBT := Lib.hid hb
  clear hz ht hb
  go_enter Tryz.func9, Tryz.ntmps9
  go_wp2_with fail
  generalize (((w.alloc (Obj.cells #[Value.slice a0 n0 c0, Value.slice a1 n1 c1] 37)).alloc (Obj.cells #[Value.int .i64 p.len, Value.int .i64 p.denied, Value.int .i64 p.closed, Value.int .i64 p.life] 39)).alloc (Obj.cells #[Value.int .i64 0, Value.int .i64 0, Value.slice none 0 0] 31)) = WW at *
  refine (specIsAS a0 a1 n0 c0 n1 c1 r _ hn0).mono ?_
  rintro e w2 ⟨he, m2⟩
  have M2 := M0.trans m2
  replace k0 := m2.cellAt k0
  replace k1 := m2.cellAt k1
  replace p0 := m2.cellAt p0
  replace p1 := m2.cellAt p1
  replace p2 := m2.cellAt p2
  replace p3 := m2.cellAt p3
  replace r0 := m2.cellAt r0
  replace r1 := m2.cellAt r1
  replace r2 := m2.cellAt r2
  replace fR := fun qq => (m2.frozen (b := w.heap.size + 1 + 1) (o := qq) (by omega) (.inr (Nat.zero_le _))).trans (fR qq)
  have zm2 := m2.size
  cases q1 : isAsB n0 r
  · have Q1 := Lib.hid q1
    rw [q1] at he
    subst he
    clear q1
    have HR := Lib.hid (show orB zA n0 zl n1 p r o ts bt = false by unfold orB coreB; rw [Q1.out]; first | done | rfl | simp)
    go_wp2_with fail
    have M := M2
    replace r0 := World.cell?_setCell_same _ _ (.int .i64 0) r0
    replace r1 := cell_set r1 ⟨w.heap.size + 1 + 1, 0, none⟩ (.int .i64 0) (.inr (by simp))
    replace r2 := cell_set r2 ⟨w.heap.size + 1 + 1, 0, none⟩ (.int .i64 0) (.inr (by simp))
    replace M := M.put ⟨w.heap.size + 1 + 1, 0, none⟩ (.int .i64 0) leR
    replace r0 := cell_set r0 ⟨w.heap.size + 1 + 1, 1, none⟩ (.int .i64 0) (.inr (by simp))
    replace r1 := World.cell?_setCell_same _ _ (.int .i64 0) r1
    replace r2 := cell_set r2 ⟨w.heap.size + 1 + 1, 1, none⟩ (.int .i64 0) (.inr (by simp))
    replace M := M.put ⟨w.heap.size + 1 + 1, 1, none⟩ (.int .i64 0) leR
    replace r0 := cell_set r0 ⟨w.heap.size + 1 + 1, 2, none⟩ (.slice none 0 0) (.inr (by simp))
    replace r1 := cell_set r1 ⟨w.heap.size + 1 + 1, 2, none⟩ (.slice none 0 0) (.inr (by simp))
    replace r2 := World.cell?_setCell_same _ _ (.slice none 0 0) r2
    replace M := M.put ⟨w.heap.size + 1 + 1, 2, none⟩ (.slice none 0 0) leR
    generalize (((w2.setCell ⟨w.heap.size + 1 + 1, 0, none⟩ (.int .i64 0)).setCell ⟨w.heap.size + 1 + 1, 1, none⟩ (.int .i64 0)).setCell ⟨w.heap.size + 1 + 1, 2, none⟩ (.slice none 0 0)) = wF at *
    exact bodyPost_ret (v := .tuple #[.agg #[.int .i64 0, .int .i64 0, .slice none 0 0], .bool false]) (by simp [results, Tryz.results9, go_sem, r0, r1, r2]) rfl (show OutTSegment (orT (orB zA n0 zl n1 p r o ts bt) ts) (orT (orB zA n0 zl n1 p r o ts bt) bt) (growR zA p ts bt [] 0 r 0 o (orB zA n0 zl n1 p r o ts bt)) (orB zA n0 zl n1 p r o ts bt) w _ wF from by rw [HR.out]; exact ⟨_, _, _, rfl, ⟨fun _ => rfl, Nat.le_refl _⟩, OwnR.none_ _ _ _ _, M⟩)
  · obtain ⟨q, rfl, hq⟩ := isAsNS q1
    have Q1 := Lib.hid q1
    rw [q1] at he
    subst he
    clear q1
    obtain ⟨bA, oA, x, rfl, hbA, hx, d0, d1, d2⟩ := HasAS.at _ _ _ _ _ _ (hA.mk M2 hB (.inr (Nat.le_refl _))) hq
    have hbr := World.block_lt_of_cell? _ _ d2
    simp only at hbr
    have i1 : (0 : Int) ≤ (q : Int) := by omega
    have i2 : (q : Int) < (n0 : Int) := by omega
    have HC := Lib.hid (show coreB zA n0 (q : Int) = x.core by unfold coreB; rw [Q1.out, Int.toNat_natCast, ← hx.out]; simp)
    obtain ⟨cr, hcr⟩ : ∃ cr, Hid (cr = x.core) := ⟨_, Lib.hid rfl⟩
    rw [← hcr.out] at d1
    cases cr
    · have HR := Lib.hid (show orB zA n0 zl n1 p (q : Int) o ts bt = false by unfold orB; rw [HC.out, ← hcr.out]; first | done | rfl | simp)
      go_wp2_with fail
      have M := M2
      replace r0 := World.cell?_setCell_same _ _ (.int .i64 0) r0
      replace r1 := cell_set r1 ⟨w.heap.size + 1 + 1, 0, none⟩ (.int .i64 0) (.inr (by simp))
      replace r2 := cell_set r2 ⟨w.heap.size + 1 + 1, 0, none⟩ (.int .i64 0) (.inr (by simp))
      replace M := M.put ⟨w.heap.size + 1 + 1, 0, none⟩ (.int .i64 0) leR
      replace r0 := cell_set r0 ⟨w.heap.size + 1 + 1, 1, none⟩ (.int .i64 0) (.inr (by simp))
      replace r1 := World.cell?_setCell_same _ _ (.int .i64 0) r1
      replace r2 := cell_set r2 ⟨w.heap.size + 1 + 1, 1, none⟩ (.int .i64 0) (.inr (by simp))
      replace M := M.put ⟨w.heap.size + 1 + 1, 1, none⟩ (.int .i64 0) leR
      replace r0 := cell_set r0 ⟨w.heap.size + 1 + 1, 2, none⟩ (.slice none 0 0) (.inr (by simp))
      replace r1 := cell_set r1 ⟨w.heap.size + 1 + 1, 2, none⟩ (.slice none 0 0) (.inr (by simp))
      replace r2 := World.cell?_setCell_same _ _ (.slice none 0 0) r2
      replace M := M.put ⟨w.heap.size + 1 + 1, 2, none⟩ (.slice none 0 0) leR
      generalize (((w2.setCell ⟨w.heap.size + 1 + 1, 0, none⟩ (.int .i64 0)).setCell ⟨w.heap.size + 1 + 1, 1, none⟩ (.int .i64 0)).setCell ⟨w.heap.size + 1 + 1, 2, none⟩ (.slice none 0 0)) = wF at *
      exact bodyPost_ret (v := .tuple #[.agg #[.int .i64 0, .int .i64 0, .slice none 0 0], .bool false]) (by simp [results, Tryz.results9, go_sem, r0, r1, r2]) rfl (show OutTSegment (orT (orB zA n0 zl n1 p (q : Int) o ts bt) ts) (orT (orB zA n0 zl n1 p (q : Int) o ts bt) bt) (growR zA p ts bt [] 0 (q : Int) 0 o (orB zA n0 zl n1 p (q : Int) o ts bt)) (orB zA n0 zl n1 p (q : Int) o ts bt) w _ wF from by rw [HR.out]; exact ⟨_, _, _, rfl, ⟨fun _ => rfl, Nat.le_refl _⟩, OwnR.none_ _ _ _ _, M⟩)
    · go_wp2_with fail
      refine (specIn o 1 6 _).mono ?_
      rintro e w' ⟨he, rfl⟩
      cases q2 : inB o 1 6
      · have Q2 := Lib.hid q2
        rw [q2] at he
        subst he
        clear q2
        have HR := Lib.hid (show orB zA n0 zl n1 p (q : Int) o ts bt = false by unfold orB; rw [HC.out, ← hcr.out, Q2.out]; first | done | rfl | simp)
        go_wp2_with fail
        have M := M2
        replace r0 := World.cell?_setCell_same _ _ (.int .i64 0) r0
        replace r1 := cell_set r1 ⟨w.heap.size + 1 + 1, 0, none⟩ (.int .i64 0) (.inr (by simp))
        replace r2 := cell_set r2 ⟨w.heap.size + 1 + 1, 0, none⟩ (.int .i64 0) (.inr (by simp))
        replace M := M.put ⟨w.heap.size + 1 + 1, 0, none⟩ (.int .i64 0) leR
        replace r0 := cell_set r0 ⟨w.heap.size + 1 + 1, 1, none⟩ (.int .i64 0) (.inr (by simp))
        replace r1 := World.cell?_setCell_same _ _ (.int .i64 0) r1
        replace r2 := cell_set r2 ⟨w.heap.size + 1 + 1, 1, none⟩ (.int .i64 0) (.inr (by simp))
        replace M := M.put ⟨w.heap.size + 1 + 1, 1, none⟩ (.int .i64 0) leR
        replace r0 := cell_set r0 ⟨w.heap.size + 1 + 1, 2, none⟩ (.slice none 0 0) (.inr (by simp))
        replace r1 := cell_set r1 ⟨w.heap.size + 1 + 1, 2, none⟩ (.slice none 0 0) (.inr (by simp))
        replace r2 := World.cell?_setCell_same _ _ (.slice none 0 0) r2
        replace M := M.put ⟨w.heap.size + 1 + 1, 2, none⟩ (.slice none 0 0) leR
        generalize (((w2.setCell ⟨w.heap.size + 1 + 1, 0, none⟩ (.int .i64 0)).setCell ⟨w.heap.size + 1 + 1, 1, none⟩ (.int .i64 0)).setCell ⟨w.heap.size + 1 + 1, 2, none⟩ (.slice none 0 0)) = wF at *
        exact bodyPost_ret (v := .tuple #[.agg #[.int .i64 0, .int .i64 0, .slice none 0 0], .bool false]) (by simp [results, Tryz.results9, go_sem, r0, r1, r2]) rfl (show OutTSegment (orT (orB zA n0 zl n1 p (q : Int) o ts bt) ts) (orT (orB zA n0 zl n1 p (q : Int) o ts bt) bt) (growR zA p ts bt [] 0 (q : Int) 0 o (orB zA n0 zl n1 p (q : Int) o ts bt)) (orB zA n0 zl n1 p (q : Int) o ts bt) w _ wF from by rw [HR.out]; exact ⟨_, _, _, rfl, ⟨fun _ => rfl, Nat.le_refl _⟩, OwnR.none_ _ _ _ _, M⟩)
      · have Q2 := Lib.hid q2
        rw [q2] at he
        subst he
        clear q2
        go_wp2_with fail
        refine (specIn ts 0 1000000 _).mono ?_
        rintro e w' ⟨he, rfl⟩
        cases q3 : inB ts 0 1000000
        · have Q3 := Lib.hid q3
          rw [q3] at he
          subst he
          clear q3
          have HR := Lib.hid (show orB zA n0 zl n1 p (q : Int) o ts bt = false by unfold orB; rw [HC.out, ← hcr.out, Q2.out, Q3.out]; first | done | rfl | simp)
          go_wp2_with fail
          have M := M2
          replace r0 := World.cell?_setCell_same _ _ (.int .i64 0) r0
          replace r1 := cell_set r1 ⟨w.heap.size + 1 + 1, 0, none⟩ (.int .i64 0) (.inr (by simp))
          replace r2 := cell_set r2 ⟨w.heap.size + 1 + 1, 0, none⟩ (.int .i64 0) (.inr (by simp))
          replace M := M.put ⟨w.heap.size + 1 + 1, 0, none⟩ (.int .i64 0) leR
          replace r0 := cell_set r0 ⟨w.heap.size + 1 + 1, 1, none⟩ (.int .i64 0) (.inr (by simp))
          replace r1 := World.cell?_setCell_same _ _ (.int .i64 0) r1
          replace r2 := cell_set r2 ⟨w.heap.size + 1 + 1, 1, none⟩ (.int .i64 0) (.inr (by simp))
          replace M := M.put ⟨w.heap.size + 1 + 1, 1, none⟩ (.int .i64 0) leR
          replace r0 := cell_set r0 ⟨w.heap.size + 1 + 1, 2, none⟩ (.slice none 0 0) (.inr (by simp))
          replace r1 := cell_set r1 ⟨w.heap.size + 1 + 1, 2, none⟩ (.slice none 0 0) (.inr (by simp))
          replace r2 := World.cell?_setCell_same _ _ (.slice none 0 0) r2
          replace M := M.put ⟨w.heap.size + 1 + 1, 2, none⟩ (.slice none 0 0) leR
          generalize (((w2.setCell ⟨w.heap.size + 1 + 1, 0, none⟩ (.int .i64 0)).setCell ⟨w.heap.size + 1 + 1, 1, none⟩ (.int .i64 0)).setCell ⟨w.heap.size + 1 + 1, 2, none⟩ (.slice none 0 0)) = wF at *
          exact bodyPost_ret (v := .tuple #[.agg #[.int .i64 0, .int .i64 0, .slice none 0 0], .bool false]) (by simp [results, Tryz.results9, go_sem, r0, r1, r2]) rfl (show OutTSegment (orT (orB zA n0 zl n1 p (q : Int) o ts bt) ts) (orT (orB zA n0 zl n1 p (q : Int) o ts bt) bt) (growR zA p ts bt [] 0 (q : Int) 0 o (orB zA n0 zl n1 p (q : Int) o ts bt)) (orB zA n0 zl n1 p (q : Int) o ts bt) w _ wF from by rw [HR.out]; exact ⟨_, _, _, rfl, ⟨fun _ => rfl, Nat.le_refl _⟩, OwnR.none_ _ _ _ _, M⟩)
        · have Q3 := Lib.hid q3
          rw [q3] at he
          subst he
          clear q3
          go_wp2_with fail
          refine (specRes bt _).mono ?_
          rintro e w' ⟨he, rfl⟩
          cases q4 : inB bt 0 2147483646
          · have Q4 := Lib.hid q4
            rw [q4] at he
            subst he
            clear q4
            have HR := Lib.hid (show orB zA n0 zl n1 p (q : Int) o ts bt = false by unfold orB; rw [HC.out, ← hcr.out, Q2.out, Q3.out, Q4.out]; first | done | rfl | simp)
            go_wp2_with fail
            have M := M2
            replace r0 := World.cell?_setCell_same _ _ (.int .i64 0) r0
            replace r1 := cell_set r1 ⟨w.heap.size + 1 + 1, 0, none⟩ (.int .i64 0) (.inr (by simp))
            replace r2 := cell_set r2 ⟨w.heap.size + 1 + 1, 0, none⟩ (.int .i64 0) (.inr (by simp))
            replace M := M.put ⟨w.heap.size + 1 + 1, 0, none⟩ (.int .i64 0) leR
            replace r0 := cell_set r0 ⟨w.heap.size + 1 + 1, 1, none⟩ (.int .i64 0) (.inr (by simp))
            replace r1 := World.cell?_setCell_same _ _ (.int .i64 0) r1
            replace r2 := cell_set r2 ⟨w.heap.size + 1 + 1, 1, none⟩ (.int .i64 0) (.inr (by simp))
            replace M := M.put ⟨w.heap.size + 1 + 1, 1, none⟩ (.int .i64 0) leR
            replace r0 := cell_set r0 ⟨w.heap.size + 1 + 1, 2, none⟩ (.slice none 0 0) (.inr (by simp))
            replace r1 := cell_set r1 ⟨w.heap.size + 1 + 1, 2, none⟩ (.slice none 0 0) (.inr (by simp))
            replace r2 := World.cell?_setCell_same _ _ (.slice none 0 0) r2
            replace M := M.put ⟨w.heap.size + 1 + 1, 2, none⟩ (.slice none 0 0) leR
            generalize (((w2.setCell ⟨w.heap.size + 1 + 1, 0, none⟩ (.int .i64 0)).setCell ⟨w.heap.size + 1 + 1, 1, none⟩ (.int .i64 0)).setCell ⟨w.heap.size + 1 + 1, 2, none⟩ (.slice none 0 0)) = wF at *
            exact bodyPost_ret (v := .tuple #[.agg #[.int .i64 0, .int .i64 0, .slice none 0 0], .bool false]) (by simp [results, Tryz.results9, go_sem, r0, r1, r2]) rfl (show OutTSegment (orT (orB zA n0 zl n1 p (q : Int) o ts bt) ts) (orT (orB zA n0 zl n1 p (q : Int) o ts bt) bt) (growR zA p ts bt [] 0 (q : Int) 0 o (orB zA n0 zl n1 p (q : Int) o ts bt)) (orB zA n0 zl n1 p (q : Int) o ts bt) w _ wF from by rw [HR.out]; exact ⟨_, _, _, rfl, ⟨fun _ => rfl, Nat.le_refl _⟩, OwnR.none_ _ _ _ _, M⟩)
          · have Q4 := Lib.hid q4
            rw [q4] at he
            subst he
            clear q4
            have MX := Mk.alloc w2 (Obj.cells #[Value.int .i64 ts, Value.int .i64 bt, Value.slice none 0 0] 31)
            have u0 : (w2.alloc (Obj.cells #[Value.int .i64 ts, Value.int .i64 bt, Value.slice none 0 0] 31)).cell? ⟨w2.heap.size, 0, none⟩ = some (.int .i64 ts) := by simp [go_sem]
            have u1 : (w2.alloc (Obj.cells #[Value.int .i64 ts, Value.int .i64 bt, Value.slice none 0 0] 31)).cell? ⟨w2.heap.size, 1, none⟩ = some (.int .i64 bt) := by simp [go_sem]
            have u2 : (w2.alloc (Obj.cells #[Value.int .i64 ts, Value.int .i64 bt, Value.slice none 0 0] 31)).cell? ⟨w2.heap.size, 2, none⟩ = some (.slice none 0 0) := by simp [go_sem]
            have fX : ∀ q, (w2.alloc (Obj.cells #[Value.int .i64 ts, Value.int .i64 bt, Value.slice none 0 0] 31)).frozen? ⟨w2.heap.size, q, none⟩ = false := fun q => by simp [go_sem]
            have hzx : (w2.alloc (Obj.cells #[Value.int .i64 ts, Value.int .i64 bt, Value.slice none 0 0] 31)).heap.size = w2.heap.size + 1 := by simp only [World.size_alloc]
            replace k0 := MX.cellAt k0
            replace k1 := MX.cellAt k1
            replace p0 := MX.cellAt p0
            replace p1 := MX.cellAt p1
            replace p2 := MX.cellAt p2
            replace p3 := MX.cellAt p3
            replace r0 := MX.cellAt r0
            replace r1 := MX.cellAt r1
            replace r2 := MX.cellAt r2
            replace d2 := MX.cellAt d2
            replace fR := fun qq => (MX.frozen (b := w.heap.size + 1 + 1) (o := qq) (by omega) (.inr (Nat.zero_le _))).trans (fR qq)
            have zMX := MX.size
            have M3 := M2.trans MX
            go_wp2_with fail
            generalize (w2.alloc (Obj.cells #[Value.int .i64 ts, Value.int .i64 bt, Value.slice none 0 0] 31)) = w3 at *
            refine (specKind (some ⟨bA, oA, none⟩) a1 n0 c0 n1 c1 B zl (q : Int) o _ (hl.mk M3 hB (.inr (Nat.le_refl _))) (Nat.le_trans hB M3.size) hn1).mono ?_
            rintro e w4 ⟨he, m4⟩
            have M4 := M3.trans m4
            replace k0 := m4.cellAt k0
            replace k1 := m4.cellAt k1
            replace p0 := m4.cellAt p0
            replace p1 := m4.cellAt p1
            replace p2 := m4.cellAt p2
            replace p3 := m4.cellAt p3
            replace r0 := m4.cellAt r0
            replace r1 := m4.cellAt r1
            replace r2 := m4.cellAt r2
            replace d2 := m4.cellAt d2
            replace u0 := m4.cellAt u0
            replace u1 := m4.cellAt u1
            replace u2 := m4.cellAt u2
            replace fR := fun qq => (m4.frozen (b := w.heap.size + 1 + 1) (o := qq) (by omega) (.inr (Nat.zero_le _))).trans (fR qq)
            have zm4 := m4.size
            replace fX := fun qq => (m4.frozen (b := w2.heap.size) (o := qq) (by omega) (.inr (Nat.zero_le _))).trans (fX qq)
            obtain ⟨kd, hkd⟩ : ∃ kd, Hid (kd = kindOf zl (q : Int) o n1) := ⟨_, Lib.hid rfl⟩
            rw [← hkd.out] at he
            subst he
            by_cases e1 : kd = 1
            · subst e1
              go_wp2_with fail
              refine (specAllows p ts bt none 0 0 0 [] o _ ⟨rfl, fun h => absurd h (by omega)⟩ (Nat.zero_le _) (by decide)).mono ?_
              rintro e w5 ⟨he, m5⟩
              have M5 := M4.trans m5
              replace k0 := m5.cellAt k0
              replace k1 := m5.cellAt k1
              replace p0 := m5.cellAt p0
              replace p1 := m5.cellAt p1
              replace p2 := m5.cellAt p2
              replace p3 := m5.cellAt p3
              replace r0 := m5.cellAt r0
              replace r1 := m5.cellAt r1
              replace r2 := m5.cellAt r2
              replace d2 := m5.cellAt d2
              replace u0 := m5.cellAt u0
              replace u1 := m5.cellAt u1
              replace u2 := m5.cellAt u2
              replace fR := fun qq => (m5.frozen (b := w.heap.size + 1 + 1) (o := qq) (by omega) (.inr (Nat.zero_le _))).trans (fR qq)
              have zm5 := m5.size
              replace fX := fun qq => (m5.frozen (b := w2.heap.size) (o := qq) (by omega) (.inr (Nat.zero_le _))).trans (fX qq)
              cases q6 : polB p [] 0 o
              · have Q6 := Lib.hid q6
                rw [q6] at he
                subst he
                clear q6
                have HR := Lib.hid (show orB zA n0 zl n1 p (q : Int) o ts bt = false by unfold orB; rw [HC.out, ← hcr.out, Q2.out, Q3.out, Q4.out, ← hkd.out, Q6.out]; first | done | rfl | simp)
                go_wp2_with fail
                have M := M5
                replace r0 := World.cell?_setCell_same _ _ (.int .i64 0) r0
                replace r1 := cell_set r1 ⟨w.heap.size + 1 + 1, 0, none⟩ (.int .i64 0) (.inr (by simp))
                replace r2 := cell_set r2 ⟨w.heap.size + 1 + 1, 0, none⟩ (.int .i64 0) (.inr (by simp))
                replace M := M.put ⟨w.heap.size + 1 + 1, 0, none⟩ (.int .i64 0) leR
                replace r0 := cell_set r0 ⟨w.heap.size + 1 + 1, 1, none⟩ (.int .i64 0) (.inr (by simp))
                replace r1 := World.cell?_setCell_same _ _ (.int .i64 0) r1
                replace r2 := cell_set r2 ⟨w.heap.size + 1 + 1, 1, none⟩ (.int .i64 0) (.inr (by simp))
                replace M := M.put ⟨w.heap.size + 1 + 1, 1, none⟩ (.int .i64 0) leR
                replace r0 := cell_set r0 ⟨w.heap.size + 1 + 1, 2, none⟩ (.slice none 0 0) (.inr (by simp))
                replace r1 := cell_set r1 ⟨w.heap.size + 1 + 1, 2, none⟩ (.slice none 0 0) (.inr (by simp))
                replace r2 := World.cell?_setCell_same _ _ (.slice none 0 0) r2
                replace M := M.put ⟨w.heap.size + 1 + 1, 2, none⟩ (.slice none 0 0) leR
                generalize (((w5.setCell ⟨w.heap.size + 1 + 1, 0, none⟩ (.int .i64 0)).setCell ⟨w.heap.size + 1 + 1, 1, none⟩ (.int .i64 0)).setCell ⟨w.heap.size + 1 + 1, 2, none⟩ (.slice none 0 0)) = wF at *
                exact bodyPost_ret (v := .tuple #[.agg #[.int .i64 0, .int .i64 0, .slice none 0 0], .bool false]) (by simp [results, Tryz.results9, go_sem, r0, r1, r2]) rfl (show OutTSegment (orT (orB zA n0 zl n1 p (q : Int) o ts bt) ts) (orT (orB zA n0 zl n1 p (q : Int) o ts bt) bt) (growR zA p ts bt [] 0 (q : Int) 0 o (orB zA n0 zl n1 p (q : Int) o ts bt)) (orB zA n0 zl n1 p (q : Int) o ts bt) w _ wF from by rw [HR.out]; exact ⟨_, _, _, rfl, ⟨fun _ => rfl, Nat.le_refl _⟩, OwnR.none_ _ _ _ _, M⟩)
              · have Q6 := Lib.hid q6
                rw [q6] at he
                subst he
                clear q6
                have HR := Lib.hid (show orB zA n0 zl n1 p (q : Int) o ts bt = true by unfold orB; rw [HC.out, ← hcr.out, Q2.out, Q3.out, Q4.out, ← hkd.out, Q6.out]; first | done | rfl | simp)
                go_wp2_with fail
                refine (specExpFor p ts _).mono ?_
                rintro e w6 ⟨rfl, m6⟩
                have M6 := M5.trans m6
                replace k0 := m6.cellAt k0
                replace k1 := m6.cellAt k1
                replace r0 := m6.cellAt r0
                replace r1 := m6.cellAt r1
                replace r2 := m6.cellAt r2
                replace d2 := m6.cellAt d2
                replace u0 := m6.cellAt u0
                replace u1 := m6.cellAt u1
                replace u2 := m6.cellAt u2
                replace fR := fun qq => (m6.frozen (b := w.heap.size + 1 + 1) (o := qq) (by omega) (.inr (Nat.zero_le _))).trans (fR qq)
                have zm6 := m6.size
                replace fX := fun qq => (m6.frozen (b := w2.heap.size) (o := qq) (by omega) (.inr (Nat.zero_le _))).trans (fX qq)
                obtain ⟨ev, hev⟩ : ∃ ev, Hid (ev = exV p ts) := ⟨_, Lib.hid rfl⟩
                have HEF := Lib.hid (show (Lit.int .i64 ev).wf = true by rw [hev.out]; exact exV_fits p ts)
                rw [show minV (wrap64 (ts + p.life)) 1000000 = ev from hev.out.symm]
                have MY := Mk.alloc w6 (Obj.cells #[Value.int .i64 (q : Int), Value.int .i64 0, Value.int .i64 o, Value.int .i64 ev, Value.int .i64 0] 72)
                have q0 : (w6.alloc (Obj.cells #[Value.int .i64 (q : Int), Value.int .i64 0, Value.int .i64 o, Value.int .i64 ev, Value.int .i64 0] 72)).cell? ⟨w6.heap.size, 0, none⟩ = some (.int .i64 (q : Int)) := by simp [go_sem]
                have q1 : (w6.alloc (Obj.cells #[Value.int .i64 (q : Int), Value.int .i64 0, Value.int .i64 o, Value.int .i64 ev, Value.int .i64 0] 72)).cell? ⟨w6.heap.size, 1, none⟩ = some (.int .i64 0) := by simp [go_sem]
                have q2 : (w6.alloc (Obj.cells #[Value.int .i64 (q : Int), Value.int .i64 0, Value.int .i64 o, Value.int .i64 ev, Value.int .i64 0] 72)).cell? ⟨w6.heap.size, 2, none⟩ = some (.int .i64 o) := by simp [go_sem]
                have q3 : (w6.alloc (Obj.cells #[Value.int .i64 (q : Int), Value.int .i64 0, Value.int .i64 o, Value.int .i64 ev, Value.int .i64 0] 72)).cell? ⟨w6.heap.size, 3, none⟩ = some (.int .i64 ev) := by simp [go_sem]
                have q4 : (w6.alloc (Obj.cells #[Value.int .i64 (q : Int), Value.int .i64 0, Value.int .i64 o, Value.int .i64 ev, Value.int .i64 0] 72)).cell? ⟨w6.heap.size, 4, none⟩ = some (.int .i64 0) := by simp [go_sem]
                replace k0 := MY.cellAt k0
                replace k1 := MY.cellAt k1
                replace r0 := MY.cellAt r0
                replace r1 := MY.cellAt r1
                replace r2 := MY.cellAt r2
                replace d2 := MY.cellAt d2
                replace u0 := MY.cellAt u0
                replace u1 := MY.cellAt u1
                replace u2 := MY.cellAt u2
                replace fR := fun qq => (MY.frozen (b := w.heap.size + 1 + 1) (o := qq) (by omega) (.inr (Nat.zero_le _))).trans (fR qq)
                have zMY := MY.size
                replace fX := fun qq => (MY.frozen (b := w2.heap.size) (o := qq) (by omega) (.inr (Nat.zero_le _))).trans (fX qq)
                have M7 := M6.trans MY
                have HK := Lib.hid (asFitsG hA.1 hq HZ.out hx.out)
                have HH := Lib.hid (hopL_fits HT.out HBT.out (x := ⟨(q : Int), 0, o, ev, 0⟩) ⟨hr, (show (Lit.int .i64 0).wf = true by decide), ho, HEF.out, (show (Lit.int .i64 0).wf = true by decide)⟩)
                obtain ⟨mv, hmv⟩ : ∃ mv, Hid (mv = macV x.key (hopL ts bt (q : Int) 0 o ev)) := ⟨_, Lib.hid rfl⟩
                have HN := Lib.hid (show nwHop zA p ts bt [] 0 (q : Int) 0 o = ⟨(q : Int), 0, o, ev, mv⟩ by unfold nwHop nwMac; rw [Int.toNat_natCast, ← hx.out, ← hev.out, betaV_bUp (Nat.le_refl _), show bUp bt [] 0 = bt from rfl, ← hmv.out])
                have HGR := Lib.hid (show growR zA p ts bt [] 0 (q : Int) 0 o true = [] ++ [⟨(q : Int), 0, o, ev, mv⟩] from by unfold growR; rw [HN.out])
                have hs67 : w6.heap.size < (w6.alloc (Obj.cells #[Value.int .i64 (q : Int), Value.int .i64 0, Value.int .i64 o, Value.int .i64 ev, Value.int .i64 0] 72)).heap.size := by rw [World.size_alloc]; omega
                go_wp2_with fail
                generalize (w6.alloc (Obj.cells #[Value.int .i64 (q : Int), Value.int .i64 0, Value.int .i64 o, Value.int .i64 ev, Value.int .i64 0] 72)) = w7 at *
                have HM := Lib.hid M7
                have HFX := Lib.hid fX
                have HFR := Lib.hid fR
                have zz7 := M7.size
                clear M7 fX fR
                refine wp_region_wks (fun w' => Mk0 w7 w' ∧ w'.cell? ⟨w.heap.size, 0, none⟩ = some (.slice (some ⟨bA, oA, none⟩) n0 c0) ∧ w'.cell? ⟨w.heap.size + 1 + 1, 0, none⟩ = some (.int .i64 0) ∧ w'.cell? ⟨w.heap.size + 1 + 1, 1, none⟩ = some (.int .i64 0) ∧ w'.cell? ⟨w.heap.size + 1 + 1, 2, none⟩ = some (.slice none 0 0) ∧ w'.cell? ⟨w2.heap.size, 0, none⟩ = some (.int .i64 ts) ∧ w'.cell? ⟨w2.heap.size, 1, none⟩ = some (.int .i64 bt) ∧ w'.cell? ⟨w2.heap.size, 2, none⟩ = some (.slice none 0 0) ∧ w'.cell? ⟨w6.heap.size, 0, none⟩ = some (.int .i64 (q : Int)) ∧ w'.cell? ⟨w6.heap.size, 1, none⟩ = some (.int .i64 0) ∧ w'.cell? ⟨w6.heap.size, 2, none⟩ = some (.int .i64 o) ∧ w'.cell? ⟨w6.heap.size, 3, none⟩ = some (.int .i64 ev) ∧ w'.cell? ⟨w6.heap.size, 4, none⟩ = some (.int .i64 0) ∧ w'.cell? ⟨bA, oA + q * 3 + 2, none⟩ = some (.int .i64 x.key)) 12 13 (by kernel_rfl) (by kernel_rfl) (by kernel_rfl) (by decide) (by decide) (⟨Mk.drew1 _, k0, r0, r1, r2, u0, u1, u2, q0, q1, q2, q3, q4, d2⟩) ?_
                change WkS _ _ _ _ _ _ 12 0 _
                first | (refine WkS.skip (m := 11) (k := 0) rfl (by rfl) ?_) | (refine WkS.pure (m := 11) (k := 0) (v := _) rfl (by rfl) (fun wv => by go_simp; try with_reducible rfl) ?_) | (refine WkS.step (m := 11) (k := 0) (v := _) rfl (by rfl) (by kernel_rfl) (fun wv hS => by obtain ⟨s0, s1, s2, s3, s4, s5, s6, s7, s8, s9, s10, s11, s12, s13⟩ := hS; go_simp; try with_reducible rfl) ?_)
                try simp only [Act.put, List.getElem_toArray, List.getElem_cons_zero, List.setIfInBounds_toArray, List.set_cons_zero, List.set_cons_succ]
                first | (refine WkS.skip (m := 10) (k := 1) rfl (by rfl) ?_) | (refine WkS.pure (m := 10) (k := 1) (v := _) rfl (by rfl) (fun wv => by go_simp; try with_reducible rfl) ?_) | (refine WkS.step (m := 10) (k := 1) (v := _) rfl (by rfl) (by kernel_rfl) (fun wv hS => by obtain ⟨s0, s1, s2, s3, s4, s5, s6, s7, s8, s9, s10, s11, s12, s13⟩ := hS; go_simp; try with_reducible rfl) ?_)
                try simp only [Act.put, List.getElem_toArray, List.getElem_cons_succ, List.getElem_cons_zero, List.setIfInBounds_toArray, List.set_cons_zero, List.set_cons_succ]
                first | (refine WkS.skip (m := 9) (k := 2) rfl (by rfl) ?_) | (refine WkS.pure (m := 9) (k := 2) (v := _) rfl (by rfl) (fun wv => by go_simp; try with_reducible rfl) ?_) | (refine WkS.step (m := 9) (k := 2) (v := _) rfl (by rfl) (by kernel_rfl) (fun wv hS => by obtain ⟨s0, s1, s2, s3, s4, s5, s6, s7, s8, s9, s10, s11, s12, s13⟩ := hS; go_simp; try with_reducible rfl) ?_)
                try simp only [Act.put, List.getElem_toArray, List.getElem_cons_succ, List.getElem_cons_zero, List.setIfInBounds_toArray, List.set_cons_zero, List.set_cons_succ]
                first | (refine WkS.skip (m := 8) (k := 3) rfl (by rfl) ?_) | (refine WkS.pure (m := 8) (k := 3) (v := _) rfl (by rfl) (fun wv => by go_simp; try with_reducible rfl) ?_) | (refine WkS.step (m := 8) (k := 3) (v := _) rfl (by rfl) (by kernel_rfl) (fun wv hS => by obtain ⟨s0, s1, s2, s3, s4, s5, s6, s7, s8, s9, s10, s11, s12, s13⟩ := hS; go_simp; try with_reducible rfl) ?_)
                try simp only [Act.put, List.getElem_toArray, List.getElem_cons_succ, List.getElem_cons_zero, List.setIfInBounds_toArray, List.set_cons_zero, List.set_cons_succ]
                first | (refine WkS.skip (m := 7) (k := 4) rfl (by rfl) ?_) | (refine WkS.pure (m := 7) (k := 4) (v := _) rfl (by rfl) (fun wv => by go_simp; try with_reducible rfl) ?_) | (refine WkS.step (m := 7) (k := 4) (v := _) rfl (by rfl) (by kernel_rfl) (fun wv hS => by obtain ⟨s0, s1, s2, s3, s4, s5, s6, s7, s8, s9, s10, s11, s12, s13⟩ := hS; go_simp; try with_reducible rfl) ?_)
                try simp only [Act.put, List.getElem_toArray, List.getElem_cons_succ, List.getElem_cons_zero, List.setIfInBounds_toArray, List.set_cons_zero, List.set_cons_succ]
                first | (refine WkS.skip (m := 6) (k := 5) rfl (by rfl) ?_) | (refine WkS.pure (m := 6) (k := 5) (v := _) rfl (by rfl) (fun wv => by go_simp; try with_reducible rfl) ?_) | (refine WkS.step (m := 6) (k := 5) (v := _) rfl (by rfl) (by kernel_rfl) (fun wv hS => by obtain ⟨s0, s1, s2, s3, s4, s5, s6, s7, s8, s9, s10, s11, s12, s13⟩ := hS; go_simp; try with_reducible rfl) ?_)
                try simp only [Act.put, List.getElem_toArray, List.getElem_cons_succ, List.getElem_cons_zero, List.setIfInBounds_toArray, List.set_cons_zero, List.set_cons_succ]
                first | (refine WkS.skip (m := 5) (k := 6) rfl (by rfl) ?_) | (refine WkS.pure (m := 5) (k := 6) (v := _) rfl (by rfl) (fun wv => by go_simp; try with_reducible rfl) ?_) | (refine WkS.step (m := 5) (k := 6) (v := _) rfl (by rfl) (by kernel_rfl) (fun wv hS => by obtain ⟨s0, s1, s2, s3, s4, s5, s6, s7, s8, s9, s10, s11, s12, s13⟩ := hS; go_simp; try with_reducible rfl) ?_)
                try simp only [Act.put, List.getElem_toArray, List.getElem_cons_succ, List.getElem_cons_zero, List.setIfInBounds_toArray, List.set_cons_zero, List.set_cons_succ]
                first | (refine WkS.skip (m := 4) (k := 7) rfl (by rfl) ?_) | (refine WkS.pure (m := 4) (k := 7) (v := _) rfl (by rfl) (fun wv => by go_simp; try with_reducible rfl) ?_) | (refine WkS.step (m := 4) (k := 7) (v := _) rfl (by rfl) (by kernel_rfl) (fun wv hS => by obtain ⟨s0, s1, s2, s3, s4, s5, s6, s7, s8, s9, s10, s11, s12, s13⟩ := hS; go_simp; try with_reducible rfl) ?_)
                try simp only [Act.put, List.getElem_toArray, List.getElem_cons_succ, List.getElem_cons_zero, List.setIfInBounds_toArray, List.set_cons_zero, List.set_cons_succ]
                first | (refine WkS.skip (m := 3) (k := 8) rfl (by rfl) ?_) | (refine WkS.pure (m := 3) (k := 8) (v := _) rfl (by rfl) (fun wv => by go_simp; try with_reducible rfl) ?_) | (refine WkS.step (m := 3) (k := 8) (v := _) rfl (by rfl) (by kernel_rfl) (fun wv hS => by obtain ⟨s0, s1, s2, s3, s4, s5, s6, s7, s8, s9, s10, s11, s12, s13⟩ := hS; go_simp; try with_reducible rfl) ?_)
                try simp only [Act.put, List.getElem_toArray, List.getElem_cons_succ, List.getElem_cons_zero, List.setIfInBounds_toArray, List.set_cons_zero, List.set_cons_succ]
                first | (refine WkS.skip (m := 2) (k := 9) rfl (by rfl) ?_) | (refine WkS.pure (m := 2) (k := 9) (v := _) rfl (by rfl) (fun wv => by go_simp; try with_reducible rfl) ?_) | (refine WkS.step (m := 2) (k := 9) (v := _) rfl (by rfl) (by kernel_rfl) (fun wv hS => by obtain ⟨s0, s1, s2, s3, s4, s5, s6, s7, s8, s9, s10, s11, s12, s13⟩ := hS; go_simp; try with_reducible rfl) ?_)
                try simp only [Act.put, List.getElem_toArray, List.getElem_cons_succ, List.getElem_cons_zero, List.setIfInBounds_toArray, List.set_cons_zero, List.set_cons_succ]
                first | (refine WkS.skip (m := 1) (k := 10) rfl (by rfl) ?_) | (refine WkS.pure (m := 1) (k := 10) (v := _) rfl (by rfl) (fun wv => by go_simp; try with_reducible rfl) ?_) | (refine WkS.step (m := 1) (k := 10) (v := _) rfl (by rfl) (by kernel_rfl) (fun wv hS => by obtain ⟨s0, s1, s2, s3, s4, s5, s6, s7, s8, s9, s10, s11, s12, s13⟩ := hS; go_simp; try with_reducible rfl) ?_)
                try simp only [Act.put, List.getElem_toArray, List.getElem_cons_succ, List.getElem_cons_zero, List.setIfInBounds_toArray, List.set_cons_zero, List.set_cons_succ]
                refine WkS.call (m := 0) (k := 11) (v := .agg #[.int .i64 (q : Int), .int .i64 0, .int .i64 o, .int .i64 ev, .int .i64 mv]) _ _ rfl (by rfl) (by kernel_rfl) (fun wv hS => by obtain ⟨s0, s1, s2, s3, s4, s5, s6, s7, s8, s9, s10, s11, s12, s13⟩ := hS; go_simp; first | done | exact ⟨rfl, rfl⟩ | with_reducible rfl) (fun wv hS => ?_) ?_; · obtain ⟨s0, s1, s2, s3, s4, s5, s6, s7, s8, s9, s10, s11, s12, s13⟩ := hS; refine (specAuth x.key ts bt (q : Int) 0 o ev 0 wv HK.out HH.out).mono ?_; rintro e w' ⟨he, bm⟩; have mm := Mk.of_below bm; exact ⟨by rw [he, hmv.out], ⟨s0.trans mm, mm.cellAt s1, mm.cellAt s2, mm.cellAt s3, mm.cellAt s4, mm.cellAt s5, mm.cellAt s6, mm.cellAt s7, mm.cellAt s8, mm.cellAt s9, mm.cellAt s10, mm.cellAt s11, mm.cellAt s12, mm.cellAt s13⟩, mm⟩
                try simp only [Act.put, List.getElem_toArray, List.getElem_cons_succ, List.getElem_cons_zero, List.setIfInBounds_toArray, List.set_cons_zero, List.set_cons_succ]
                refine WkS.done fun wE hE => ?_
                clear k0 r0 r1 r2 u0 u1 u2 q0 q1 q2 q3 q4 d2
                obtain ⟨mE, k0, r0, r1, r2, u0, u1, u2, q0, q1, q2, q3, q4, d2⟩ := hE
                have zE0 := mE.size
                change wpSoft _ _ _ _ 13 1 _ _
                refine wpSoft.value (n := 0) (w1 := (wE.alloc (Obj.cells #[Value.int .i64 (q : Int), Value.int .i64 0, Value.int .i64 o, Value.int .i64 ev, Value.int .i64 mv] 72))) _ rfl (by rfl) (by go_simp; first | done | exact ⟨rfl, rfl⟩ | with_reducible rfl) ⟨mE.trans (Mk.alloc wE (Obj.cells #[Value.int .i64 (q : Int), Value.int .i64 0, Value.int .i64 o, Value.int .i64 ev, Value.int .i64 mv] 72)), (Mk.alloc wE (Obj.cells #[Value.int .i64 (q : Int), Value.int .i64 0, Value.int .i64 o, Value.int .i64 ev, Value.int .i64 mv] 72)).cellAt k0, (Mk.alloc wE (Obj.cells #[Value.int .i64 (q : Int), Value.int .i64 0, Value.int .i64 o, Value.int .i64 ev, Value.int .i64 mv] 72)).cellAt r0, (Mk.alloc wE (Obj.cells #[Value.int .i64 (q : Int), Value.int .i64 0, Value.int .i64 o, Value.int .i64 ev, Value.int .i64 mv] 72)).cellAt r1, (Mk.alloc wE (Obj.cells #[Value.int .i64 (q : Int), Value.int .i64 0, Value.int .i64 o, Value.int .i64 ev, Value.int .i64 mv] 72)).cellAt r2, (Mk.alloc wE (Obj.cells #[Value.int .i64 (q : Int), Value.int .i64 0, Value.int .i64 o, Value.int .i64 ev, Value.int .i64 mv] 72)).cellAt u0, (Mk.alloc wE (Obj.cells #[Value.int .i64 (q : Int), Value.int .i64 0, Value.int .i64 o, Value.int .i64 ev, Value.int .i64 mv] 72)).cellAt u1, (Mk.alloc wE (Obj.cells #[Value.int .i64 (q : Int), Value.int .i64 0, Value.int .i64 o, Value.int .i64 ev, Value.int .i64 mv] 72)).cellAt u2, (Mk.alloc wE (Obj.cells #[Value.int .i64 (q : Int), Value.int .i64 0, Value.int .i64 o, Value.int .i64 ev, Value.int .i64 mv] 72)).cellAt q0, (Mk.alloc wE (Obj.cells #[Value.int .i64 (q : Int), Value.int .i64 0, Value.int .i64 o, Value.int .i64 ev, Value.int .i64 mv] 72)).cellAt q1, (Mk.alloc wE (Obj.cells #[Value.int .i64 (q : Int), Value.int .i64 0, Value.int .i64 o, Value.int .i64 ev, Value.int .i64 mv] 72)).cellAt q2, (Mk.alloc wE (Obj.cells #[Value.int .i64 (q : Int), Value.int .i64 0, Value.int .i64 o, Value.int .i64 ev, Value.int .i64 mv] 72)).cellAt q3, (Mk.alloc wE (Obj.cells #[Value.int .i64 (q : Int), Value.int .i64 0, Value.int .i64 o, Value.int .i64 ev, Value.int .i64 mv] 72)).cellAt q4, (Mk.alloc wE (Obj.cells #[Value.int .i64 (q : Int), Value.int .i64 0, Value.int .i64 o, Value.int .i64 ev, Value.int .i64 mv] 72)).cellAt d2⟩ ?_
                have hh8 := hasR_new (cell := THop.cell) (nc := 5) (by decide) wE 72 (⟨(q : Int), 0, o, ev, mv⟩ : THop) #[Value.int .i64 (q : Int), Value.int .i64 0, Value.int .i64 o, Value.int .i64 ev, Value.int .i64 mv] (fun j hj => by match j, hj with | 0, _ => rfl | 1, _ => rfl | 2, _ => rfl | 3, _ => rfl | 4, _ => rfl)
                intro wG0 mG0 hG0
                clear mE k0 r0 r1 r2 u0 u1 u2 q0 q1 q2 q3 q4 d2
                obtain ⟨mE, k0, r0, r1, r2, u0, u1, u2, q0, q1, q2, q3, q4, d2⟩ := hG0
                replace hh8 := (hh8.mk mG0 (Nat.le_refl _) (.inr (Nat.le_refl _))).mono mG0.size
                have zG := mG0.size
                rw [World.size_alloc] at zG
                try simp only [Act.put, List.getElem_toArray, List.getElem_cons_succ, List.getElem_cons_zero, List.setIfInBounds_toArray, List.set_cons_zero, List.set_cons_succ]
                refine wpSoft.done ?_
                simp only [List.drop_succ_cons, List.drop_zero]
                have M9 := HM.out.trans mE
                have hown8 := own_nilR wG0 WW.heap.size 72 5
                have fXE := fun q2 => (mE.frozen (b := w2.heap.size) (o := q2) (by omega) (.inr (Nat.zero_le _))).trans (HFX.out q2)
                have fRE := fun q2 => (mE.frozen (b := w.heap.size + 1 + 1) (o := q2) (by omega) (.inr (Nat.zero_le _))).trans (HFR.out q2)
                have zzE := mE.size
                go_wp2_with (at_builtin; refine wpList_appR4 (nc := 5) (cell := THop.cell) (by decide) oneHopC rfl (.tmp 74) (.tmp 85) 29 rfl WW.heap.size 72 i0 _ Tryz.underlying29 hi0 hz0 rfl hz1 (by rw [hz2]; decide) _ [] 0 rfl hown8 _ 1 1 [(⟨(q : Int), 0, o, ev, mv⟩ : THop)] rfl (fun h => by cases h) hh8 (by omega) (by omega) ?_; intro v9 w9 hown9 hgr9 hat9; have hneX : ∀ g, (Value.slice none 0 0).ownBlock = some g → g ≠ w2.heap.size := fun g hg => (by cases hg); have hneR : ∀ g, (Value.slice none 0 0).ownBlock = some g → g ≠ w.heap.size + 1 + 1 := fun g hg => (by cases hg); have hneX2 : ∀ g, v9.ownBlock = some g → g ≠ w2.heap.size := fun g hg => (by rcases hat9 with e | e <;> rw [e] at hg <;> first | exact hneX g hg | (injection hg with hg; omega)); have t0 := grown_cell u0 hgr9 hneX; have t1 := grown_cell u1 hgr9 hneX; have t2 := grown_cell u2 hgr9 hneX; have v0 := grown_cell r0 hgr9 hneR; have v1 := grown_cell r1 hgr9 hneR; have v2 := grown_cell r2 hgr9 hneR; have tX := fun q2 => grown_frz (fXE q2) (World.block_lt_of_cell? _ _ u0) hgr9 hneX; have tR := fun q2 => grown_frz (fRE q2) (World.block_lt_of_cell? _ _ r0) hgr9 hneR; have MA := M9.appR hgr9 (fun g hg => by cases hg); obtain ⟨A2, C2, rfl, hca2, hcb2⟩ := ownsRow_sliceR2 hown9)
                try simp only [noPan]
                try (go_wp2_with fail)
                replace t0 := cell_set t0 ⟨w2.heap.size, 2, none⟩ (.slice A2 (0 + 1) C2) (.inr (by simp))
                replace t1 := cell_set t1 ⟨w2.heap.size, 2, none⟩ (.slice A2 (0 + 1) C2) (.inr (by simp))
                replace t2 := World.cell?_setCell_same _ _ (.slice A2 (0 + 1) C2) t2
                replace v0 := cell_set v0 ⟨w2.heap.size, 2, none⟩ (.slice A2 (0 + 1) C2) (.inl (show w2.heap.size ≠ w.heap.size + 1 + 1 from by omega))
                replace v1 := cell_set v1 ⟨w2.heap.size, 2, none⟩ (.slice A2 (0 + 1) C2) (.inl (show w2.heap.size ≠ w.heap.size + 1 + 1 from by omega))
                replace v2 := cell_set v2 ⟨w2.heap.size, 2, none⟩ (.slice A2 (0 + 1) C2) (.inl (show w2.heap.size ≠ w.heap.size + 1 + 1 from by omega))
                replace hown9 := own_put_ne hown9 ⟨w2.heap.size, 2, none⟩ (.slice A2 (0 + 1) C2) hneX2
                replace MA := MA.put ⟨w2.heap.size, 2, none⟩ (.slice A2 (0 + 1) C2) (show w.heap.size ≤ w2.heap.size from by omega)
                replace v0 := World.cell?_setCell_same _ _ (.int .i64 ts) v0
                replace v1 := cell_set v1 ⟨w.heap.size + 1 + 1, 0, none⟩ (.int .i64 ts) (.inr (by simp))
                replace v2 := cell_set v2 ⟨w.heap.size + 1 + 1, 0, none⟩ (.int .i64 ts) (.inr (by simp))
                replace hown9 := own_put hown9 ⟨w.heap.size + 1 + 1, 0, none⟩ (.int .i64 ts) (show w.heap.size + 1 + 1 < _ from by omega)
                replace MA := MA.put ⟨w.heap.size + 1 + 1, 0, none⟩ (.int .i64 ts) (show w.heap.size ≤ w.heap.size + 1 + 1 from by omega)
                replace v0 := cell_set v0 ⟨w.heap.size + 1 + 1, 1, none⟩ (.int .i64 bt) (.inr (by simp))
                replace v1 := World.cell?_setCell_same _ _ (.int .i64 bt) v1
                replace v2 := cell_set v2 ⟨w.heap.size + 1 + 1, 1, none⟩ (.int .i64 bt) (.inr (by simp))
                replace hown9 := own_put hown9 ⟨w.heap.size + 1 + 1, 1, none⟩ (.int .i64 bt) (show w.heap.size + 1 + 1 < _ from by omega)
                replace MA := MA.put ⟨w.heap.size + 1 + 1, 1, none⟩ (.int .i64 bt) (show w.heap.size ≤ w.heap.size + 1 + 1 from by omega)
                replace v0 := cell_set v0 ⟨w.heap.size + 1 + 1, 2, none⟩ (.slice A2 (0 + 1) C2) (.inr (by simp))
                replace v1 := cell_set v1 ⟨w.heap.size + 1 + 1, 2, none⟩ (.slice A2 (0 + 1) C2) (.inr (by simp))
                replace v2 := World.cell?_setCell_same _ _ (.slice A2 (0 + 1) C2) v2
                replace hown9 := own_put hown9 ⟨w.heap.size + 1 + 1, 2, none⟩ (.slice A2 (0 + 1) C2) (show w.heap.size + 1 + 1 < _ from by omega)
                replace MA := MA.put ⟨w.heap.size + 1 + 1, 2, none⟩ (.slice A2 (0 + 1) C2) (show w.heap.size ≤ w.heap.size + 1 + 1 from by omega)
                generalize ((((w9.setCell ⟨w2.heap.size, 2, none⟩ (.slice A2 (0 + 1) C2)).setCell ⟨w.heap.size + 1 + 1, 0, none⟩ (.int .i64 ts)).setCell ⟨w.heap.size + 1 + 1, 1, none⟩ (.int .i64 bt)).setCell ⟨w.heap.size + 1 + 1, 2, none⟩ (.slice A2 (0 + 1) C2)) = wF at *
                exact bodyPost_ret (v := .tuple #[.agg #[.int .i64 ts, .int .i64 bt, .slice A2 (0 + 1) C2], .bool true]) (by simp [results, Tryz.results9, go_sem, v0, v1, v2]) rfl (show OutTSegment (orT (orB zA n0 zl n1 p (q : Int) o ts bt) ts) (orT (orB zA n0 zl n1 p (q : Int) o ts bt) bt) (growR zA p ts bt [] 0 (q : Int) 0 o (orB zA n0 zl n1 p (q : Int) o ts bt)) (orB zA n0 zl n1 p (q : Int) o ts bt) w _ wF from by rw [HR.out, HGR.out]; exact ⟨_, _, _, rfl, ⟨hca2, hcb2⟩, (ownsRow_ownR (by decide) hown9).wide (by omega) (Nat.le_refl _), MA⟩)
            · by_cases e2 : kd = 2
              · subst e2
                go_wp2_with fail
                refine (specAllows p ts bt none 0 0 0 [] o _ ⟨rfl, fun h => absurd h (by omega)⟩ (Nat.zero_le _) (by decide)).mono ?_
                rintro e w5 ⟨he, m5⟩
                have M5 := M4.trans m5
                replace k0 := m5.cellAt k0
                replace k1 := m5.cellAt k1
                replace p0 := m5.cellAt p0
                replace p1 := m5.cellAt p1
                replace p2 := m5.cellAt p2
                replace p3 := m5.cellAt p3
                replace r0 := m5.cellAt r0
                replace r1 := m5.cellAt r1
                replace r2 := m5.cellAt r2
                replace d2 := m5.cellAt d2
                replace u0 := m5.cellAt u0
                replace u1 := m5.cellAt u1
                replace u2 := m5.cellAt u2
                replace fR := fun qq => (m5.frozen (b := w.heap.size + 1 + 1) (o := qq) (by omega) (.inr (Nat.zero_le _))).trans (fR qq)
                have zm5 := m5.size
                replace fX := fun qq => (m5.frozen (b := w2.heap.size) (o := qq) (by omega) (.inr (Nat.zero_le _))).trans (fX qq)
                cases q6 : polB p [] 0 o
                · have Q6 := Lib.hid q6
                  rw [q6] at he
                  subst he
                  clear q6
                  have HR := Lib.hid (show orB zA n0 zl n1 p (q : Int) o ts bt = false by unfold orB; rw [HC.out, ← hcr.out, Q2.out, Q3.out, Q4.out, ← hkd.out, Q6.out]; first | done | rfl | simp)
                  go_wp2_with fail
                  have M := M5
                  replace r0 := World.cell?_setCell_same _ _ (.int .i64 0) r0
                  replace r1 := cell_set r1 ⟨w.heap.size + 1 + 1, 0, none⟩ (.int .i64 0) (.inr (by simp))
                  replace r2 := cell_set r2 ⟨w.heap.size + 1 + 1, 0, none⟩ (.int .i64 0) (.inr (by simp))
                  replace M := M.put ⟨w.heap.size + 1 + 1, 0, none⟩ (.int .i64 0) leR
                  replace r0 := cell_set r0 ⟨w.heap.size + 1 + 1, 1, none⟩ (.int .i64 0) (.inr (by simp))
                  replace r1 := World.cell?_setCell_same _ _ (.int .i64 0) r1
                  replace r2 := cell_set r2 ⟨w.heap.size + 1 + 1, 1, none⟩ (.int .i64 0) (.inr (by simp))
                  replace M := M.put ⟨w.heap.size + 1 + 1, 1, none⟩ (.int .i64 0) leR
                  replace r0 := cell_set r0 ⟨w.heap.size + 1 + 1, 2, none⟩ (.slice none 0 0) (.inr (by simp))
                  replace r1 := cell_set r1 ⟨w.heap.size + 1 + 1, 2, none⟩ (.slice none 0 0) (.inr (by simp))
                  replace r2 := World.cell?_setCell_same _ _ (.slice none 0 0) r2
                  replace M := M.put ⟨w.heap.size + 1 + 1, 2, none⟩ (.slice none 0 0) leR
                  generalize (((w5.setCell ⟨w.heap.size + 1 + 1, 0, none⟩ (.int .i64 0)).setCell ⟨w.heap.size + 1 + 1, 1, none⟩ (.int .i64 0)).setCell ⟨w.heap.size + 1 + 1, 2, none⟩ (.slice none 0 0)) = wF at *
                  exact bodyPost_ret (v := .tuple #[.agg #[.int .i64 0, .int .i64 0, .slice none 0 0], .bool false]) (by simp [results, Tryz.results9, go_sem, r0, r1, r2]) rfl (show OutTSegment (orT (orB zA n0 zl n1 p (q : Int) o ts bt) ts) (orT (orB zA n0 zl n1 p (q : Int) o ts bt) bt) (growR zA p ts bt [] 0 (q : Int) 0 o (orB zA n0 zl n1 p (q : Int) o ts bt)) (orB zA n0 zl n1 p (q : Int) o ts bt) w _ wF from by rw [HR.out]; exact ⟨_, _, _, rfl, ⟨fun _ => rfl, Nat.le_refl _⟩, OwnR.none_ _ _ _ _, M⟩)
                · have Q6 := Lib.hid q6
                  rw [q6] at he
                  subst he
                  clear q6
                  have HR := Lib.hid (show orB zA n0 zl n1 p (q : Int) o ts bt = true by unfold orB; rw [HC.out, ← hcr.out, Q2.out, Q3.out, Q4.out, ← hkd.out, Q6.out]; first | done | rfl | simp)
                  go_wp2_with fail
                  refine (specExpFor p ts _).mono ?_
                  rintro e w6 ⟨rfl, m6⟩
                  have M6 := M5.trans m6
                  replace k0 := m6.cellAt k0
                  replace k1 := m6.cellAt k1
                  replace r0 := m6.cellAt r0
                  replace r1 := m6.cellAt r1
                  replace r2 := m6.cellAt r2
                  replace d2 := m6.cellAt d2
                  replace u0 := m6.cellAt u0
                  replace u1 := m6.cellAt u1
                  replace u2 := m6.cellAt u2
                  replace fR := fun qq => (m6.frozen (b := w.heap.size + 1 + 1) (o := qq) (by omega) (.inr (Nat.zero_le _))).trans (fR qq)
                  have zm6 := m6.size
                  replace fX := fun qq => (m6.frozen (b := w2.heap.size) (o := qq) (by omega) (.inr (Nat.zero_le _))).trans (fX qq)
                  obtain ⟨ev, hev⟩ : ∃ ev, Hid (ev = exV p ts) := ⟨_, Lib.hid rfl⟩
                  have HEF := Lib.hid (show (Lit.int .i64 ev).wf = true by rw [hev.out]; exact exV_fits p ts)
                  rw [show minV (wrap64 (ts + p.life)) 1000000 = ev from hev.out.symm]
                  have MY := Mk.alloc w6 (Obj.cells #[Value.int .i64 (q : Int), Value.int .i64 0, Value.int .i64 o, Value.int .i64 ev, Value.int .i64 0] 72)
                  have q0 : (w6.alloc (Obj.cells #[Value.int .i64 (q : Int), Value.int .i64 0, Value.int .i64 o, Value.int .i64 ev, Value.int .i64 0] 72)).cell? ⟨w6.heap.size, 0, none⟩ = some (.int .i64 (q : Int)) := by simp [go_sem]
                  have q1 : (w6.alloc (Obj.cells #[Value.int .i64 (q : Int), Value.int .i64 0, Value.int .i64 o, Value.int .i64 ev, Value.int .i64 0] 72)).cell? ⟨w6.heap.size, 1, none⟩ = some (.int .i64 0) := by simp [go_sem]
                  have q2 : (w6.alloc (Obj.cells #[Value.int .i64 (q : Int), Value.int .i64 0, Value.int .i64 o, Value.int .i64 ev, Value.int .i64 0] 72)).cell? ⟨w6.heap.size, 2, none⟩ = some (.int .i64 o) := by simp [go_sem]
                  have q3 : (w6.alloc (Obj.cells #[Value.int .i64 (q : Int), Value.int .i64 0, Value.int .i64 o, Value.int .i64 ev, Value.int .i64 0] 72)).cell? ⟨w6.heap.size, 3, none⟩ = some (.int .i64 ev) := by simp [go_sem]
                  have q4 : (w6.alloc (Obj.cells #[Value.int .i64 (q : Int), Value.int .i64 0, Value.int .i64 o, Value.int .i64 ev, Value.int .i64 0] 72)).cell? ⟨w6.heap.size, 4, none⟩ = some (.int .i64 0) := by simp [go_sem]
                  replace k0 := MY.cellAt k0
                  replace k1 := MY.cellAt k1
                  replace r0 := MY.cellAt r0
                  replace r1 := MY.cellAt r1
                  replace r2 := MY.cellAt r2
                  replace d2 := MY.cellAt d2
                  replace u0 := MY.cellAt u0
                  replace u1 := MY.cellAt u1
                  replace u2 := MY.cellAt u2
                  replace fR := fun qq => (MY.frozen (b := w.heap.size + 1 + 1) (o := qq) (by omega) (.inr (Nat.zero_le _))).trans (fR qq)
                  have zMY := MY.size
                  replace fX := fun qq => (MY.frozen (b := w2.heap.size) (o := qq) (by omega) (.inr (Nat.zero_le _))).trans (fX qq)
                  have M7 := M6.trans MY
                  have HK := Lib.hid (asFitsG hA.1 hq HZ.out hx.out)
                  have HH := Lib.hid (hopL_fits HT.out HBT.out (x := ⟨(q : Int), 0, o, ev, 0⟩) ⟨hr, (show (Lit.int .i64 0).wf = true by decide), ho, HEF.out, (show (Lit.int .i64 0).wf = true by decide)⟩)
                  obtain ⟨mv, hmv⟩ : ∃ mv, Hid (mv = macV x.key (hopL ts bt (q : Int) 0 o ev)) := ⟨_, Lib.hid rfl⟩
                  have HN := Lib.hid (show nwHop zA p ts bt [] 0 (q : Int) 0 o = ⟨(q : Int), 0, o, ev, mv⟩ by unfold nwHop nwMac; rw [Int.toNat_natCast, ← hx.out, ← hev.out, betaV_bUp (Nat.le_refl _), show bUp bt [] 0 = bt from rfl, ← hmv.out])
                  have HGR := Lib.hid (show growR zA p ts bt [] 0 (q : Int) 0 o true = [] ++ [⟨(q : Int), 0, o, ev, mv⟩] from by unfold growR; rw [HN.out])
                  have hs67 : w6.heap.size < (w6.alloc (Obj.cells #[Value.int .i64 (q : Int), Value.int .i64 0, Value.int .i64 o, Value.int .i64 ev, Value.int .i64 0] 72)).heap.size := by rw [World.size_alloc]; omega
                  go_wp2_with fail
                  generalize (w6.alloc (Obj.cells #[Value.int .i64 (q : Int), Value.int .i64 0, Value.int .i64 o, Value.int .i64 ev, Value.int .i64 0] 72)) = w7 at *
                  have HM := Lib.hid M7
                  have HFX := Lib.hid fX
                  have HFR := Lib.hid fR
                  have zz7 := M7.size
                  clear M7 fX fR
                  refine wp_region_wks (fun w' => Mk0 w7 w' ∧ w'.cell? ⟨w.heap.size, 0, none⟩ = some (.slice (some ⟨bA, oA, none⟩) n0 c0) ∧ w'.cell? ⟨w.heap.size + 1 + 1, 0, none⟩ = some (.int .i64 0) ∧ w'.cell? ⟨w.heap.size + 1 + 1, 1, none⟩ = some (.int .i64 0) ∧ w'.cell? ⟨w.heap.size + 1 + 1, 2, none⟩ = some (.slice none 0 0) ∧ w'.cell? ⟨w2.heap.size, 0, none⟩ = some (.int .i64 ts) ∧ w'.cell? ⟨w2.heap.size, 1, none⟩ = some (.int .i64 bt) ∧ w'.cell? ⟨w2.heap.size, 2, none⟩ = some (.slice none 0 0) ∧ w'.cell? ⟨w6.heap.size, 0, none⟩ = some (.int .i64 (q : Int)) ∧ w'.cell? ⟨w6.heap.size, 1, none⟩ = some (.int .i64 0) ∧ w'.cell? ⟨w6.heap.size, 2, none⟩ = some (.int .i64 o) ∧ w'.cell? ⟨w6.heap.size, 3, none⟩ = some (.int .i64 ev) ∧ w'.cell? ⟨w6.heap.size, 4, none⟩ = some (.int .i64 0) ∧ w'.cell? ⟨bA, oA + q * 3 + 2, none⟩ = some (.int .i64 x.key)) 12 13 (by kernel_rfl) (by kernel_rfl) (by kernel_rfl) (by decide) (by decide) (⟨Mk.drew1 _, k0, r0, r1, r2, u0, u1, u2, q0, q1, q2, q3, q4, d2⟩) ?_
                  change WkS _ _ _ _ _ _ 12 0 _
                  first | (refine WkS.skip (m := 11) (k := 0) rfl (by rfl) ?_) | (refine WkS.pure (m := 11) (k := 0) (v := _) rfl (by rfl) (fun wv => by go_simp; try with_reducible rfl) ?_) | (refine WkS.step (m := 11) (k := 0) (v := _) rfl (by rfl) (by kernel_rfl) (fun wv hS => by obtain ⟨s0, s1, s2, s3, s4, s5, s6, s7, s8, s9, s10, s11, s12, s13⟩ := hS; go_simp; try with_reducible rfl) ?_)
                  try simp only [Act.put, List.getElem_toArray, List.getElem_cons_zero, List.setIfInBounds_toArray, List.set_cons_zero, List.set_cons_succ]
                  first | (refine WkS.skip (m := 10) (k := 1) rfl (by rfl) ?_) | (refine WkS.pure (m := 10) (k := 1) (v := _) rfl (by rfl) (fun wv => by go_simp; try with_reducible rfl) ?_) | (refine WkS.step (m := 10) (k := 1) (v := _) rfl (by rfl) (by kernel_rfl) (fun wv hS => by obtain ⟨s0, s1, s2, s3, s4, s5, s6, s7, s8, s9, s10, s11, s12, s13⟩ := hS; go_simp; try with_reducible rfl) ?_)
                  try simp only [Act.put, List.getElem_toArray, List.getElem_cons_succ, List.getElem_cons_zero, List.setIfInBounds_toArray, List.set_cons_zero, List.set_cons_succ]
                  first | (refine WkS.skip (m := 9) (k := 2) rfl (by rfl) ?_) | (refine WkS.pure (m := 9) (k := 2) (v := _) rfl (by rfl) (fun wv => by go_simp; try with_reducible rfl) ?_) | (refine WkS.step (m := 9) (k := 2) (v := _) rfl (by rfl) (by kernel_rfl) (fun wv hS => by obtain ⟨s0, s1, s2, s3, s4, s5, s6, s7, s8, s9, s10, s11, s12, s13⟩ := hS; go_simp; try with_reducible rfl) ?_)
                  try simp only [Act.put, List.getElem_toArray, List.getElem_cons_succ, List.getElem_cons_zero, List.setIfInBounds_toArray, List.set_cons_zero, List.set_cons_succ]
                  first | (refine WkS.skip (m := 8) (k := 3) rfl (by rfl) ?_) | (refine WkS.pure (m := 8) (k := 3) (v := _) rfl (by rfl) (fun wv => by go_simp; try with_reducible rfl) ?_) | (refine WkS.step (m := 8) (k := 3) (v := _) rfl (by rfl) (by kernel_rfl) (fun wv hS => by obtain ⟨s0, s1, s2, s3, s4, s5, s6, s7, s8, s9, s10, s11, s12, s13⟩ := hS; go_simp; try with_reducible rfl) ?_)
                  try simp only [Act.put, List.getElem_toArray, List.getElem_cons_succ, List.getElem_cons_zero, List.setIfInBounds_toArray, List.set_cons_zero, List.set_cons_succ]
                  first | (refine WkS.skip (m := 7) (k := 4) rfl (by rfl) ?_) | (refine WkS.pure (m := 7) (k := 4) (v := _) rfl (by rfl) (fun wv => by go_simp; try with_reducible rfl) ?_) | (refine WkS.step (m := 7) (k := 4) (v := _) rfl (by rfl) (by kernel_rfl) (fun wv hS => by obtain ⟨s0, s1, s2, s3, s4, s5, s6, s7, s8, s9, s10, s11, s12, s13⟩ := hS; go_simp; try with_reducible rfl) ?_)
                  try simp only [Act.put, List.getElem_toArray, List.getElem_cons_succ, List.getElem_cons_zero, List.setIfInBounds_toArray, List.set_cons_zero, List.set_cons_succ]
                  first | (refine WkS.skip (m := 6) (k := 5) rfl (by rfl) ?_) | (refine WkS.pure (m := 6) (k := 5) (v := _) rfl (by rfl) (fun wv => by go_simp; try with_reducible rfl) ?_) | (refine WkS.step (m := 6) (k := 5) (v := _) rfl (by rfl) (by kernel_rfl) (fun wv hS => by obtain ⟨s0, s1, s2, s3, s4, s5, s6, s7, s8, s9, s10, s11, s12, s13⟩ := hS; go_simp; try with_reducible rfl) ?_)
                  try simp only [Act.put, List.getElem_toArray, List.getElem_cons_succ, List.getElem_cons_zero, List.setIfInBounds_toArray, List.set_cons_zero, List.set_cons_succ]
                  first | (refine WkS.skip (m := 5) (k := 6) rfl (by rfl) ?_) | (refine WkS.pure (m := 5) (k := 6) (v := _) rfl (by rfl) (fun wv => by go_simp; try with_reducible rfl) ?_) | (refine WkS.step (m := 5) (k := 6) (v := _) rfl (by rfl) (by kernel_rfl) (fun wv hS => by obtain ⟨s0, s1, s2, s3, s4, s5, s6, s7, s8, s9, s10, s11, s12, s13⟩ := hS; go_simp; try with_reducible rfl) ?_)
                  try simp only [Act.put, List.getElem_toArray, List.getElem_cons_succ, List.getElem_cons_zero, List.setIfInBounds_toArray, List.set_cons_zero, List.set_cons_succ]
                  first | (refine WkS.skip (m := 4) (k := 7) rfl (by rfl) ?_) | (refine WkS.pure (m := 4) (k := 7) (v := _) rfl (by rfl) (fun wv => by go_simp; try with_reducible rfl) ?_) | (refine WkS.step (m := 4) (k := 7) (v := _) rfl (by rfl) (by kernel_rfl) (fun wv hS => by obtain ⟨s0, s1, s2, s3, s4, s5, s6, s7, s8, s9, s10, s11, s12, s13⟩ := hS; go_simp; try with_reducible rfl) ?_)
                  try simp only [Act.put, List.getElem_toArray, List.getElem_cons_succ, List.getElem_cons_zero, List.setIfInBounds_toArray, List.set_cons_zero, List.set_cons_succ]
                  first | (refine WkS.skip (m := 3) (k := 8) rfl (by rfl) ?_) | (refine WkS.pure (m := 3) (k := 8) (v := _) rfl (by rfl) (fun wv => by go_simp; try with_reducible rfl) ?_) | (refine WkS.step (m := 3) (k := 8) (v := _) rfl (by rfl) (by kernel_rfl) (fun wv hS => by obtain ⟨s0, s1, s2, s3, s4, s5, s6, s7, s8, s9, s10, s11, s12, s13⟩ := hS; go_simp; try with_reducible rfl) ?_)
                  try simp only [Act.put, List.getElem_toArray, List.getElem_cons_succ, List.getElem_cons_zero, List.setIfInBounds_toArray, List.set_cons_zero, List.set_cons_succ]
                  first | (refine WkS.skip (m := 2) (k := 9) rfl (by rfl) ?_) | (refine WkS.pure (m := 2) (k := 9) (v := _) rfl (by rfl) (fun wv => by go_simp; try with_reducible rfl) ?_) | (refine WkS.step (m := 2) (k := 9) (v := _) rfl (by rfl) (by kernel_rfl) (fun wv hS => by obtain ⟨s0, s1, s2, s3, s4, s5, s6, s7, s8, s9, s10, s11, s12, s13⟩ := hS; go_simp; try with_reducible rfl) ?_)
                  try simp only [Act.put, List.getElem_toArray, List.getElem_cons_succ, List.getElem_cons_zero, List.setIfInBounds_toArray, List.set_cons_zero, List.set_cons_succ]
                  first | (refine WkS.skip (m := 1) (k := 10) rfl (by rfl) ?_) | (refine WkS.pure (m := 1) (k := 10) (v := _) rfl (by rfl) (fun wv => by go_simp; try with_reducible rfl) ?_) | (refine WkS.step (m := 1) (k := 10) (v := _) rfl (by rfl) (by kernel_rfl) (fun wv hS => by obtain ⟨s0, s1, s2, s3, s4, s5, s6, s7, s8, s9, s10, s11, s12, s13⟩ := hS; go_simp; try with_reducible rfl) ?_)
                  try simp only [Act.put, List.getElem_toArray, List.getElem_cons_succ, List.getElem_cons_zero, List.setIfInBounds_toArray, List.set_cons_zero, List.set_cons_succ]
                  refine WkS.call (m := 0) (k := 11) (v := .agg #[.int .i64 (q : Int), .int .i64 0, .int .i64 o, .int .i64 ev, .int .i64 mv]) _ _ rfl (by rfl) (by kernel_rfl) (fun wv hS => by obtain ⟨s0, s1, s2, s3, s4, s5, s6, s7, s8, s9, s10, s11, s12, s13⟩ := hS; go_simp; first | done | exact ⟨rfl, rfl⟩ | with_reducible rfl) (fun wv hS => ?_) ?_; · obtain ⟨s0, s1, s2, s3, s4, s5, s6, s7, s8, s9, s10, s11, s12, s13⟩ := hS; refine (specAuth x.key ts bt (q : Int) 0 o ev 0 wv HK.out HH.out).mono ?_; rintro e w' ⟨he, bm⟩; have mm := Mk.of_below bm; exact ⟨by rw [he, hmv.out], ⟨s0.trans mm, mm.cellAt s1, mm.cellAt s2, mm.cellAt s3, mm.cellAt s4, mm.cellAt s5, mm.cellAt s6, mm.cellAt s7, mm.cellAt s8, mm.cellAt s9, mm.cellAt s10, mm.cellAt s11, mm.cellAt s12, mm.cellAt s13⟩, mm⟩
                  try simp only [Act.put, List.getElem_toArray, List.getElem_cons_succ, List.getElem_cons_zero, List.setIfInBounds_toArray, List.set_cons_zero, List.set_cons_succ]
                  refine WkS.done fun wE hE => ?_
                  clear k0 r0 r1 r2 u0 u1 u2 q0 q1 q2 q3 q4 d2
                  obtain ⟨mE, k0, r0, r1, r2, u0, u1, u2, q0, q1, q2, q3, q4, d2⟩ := hE
                  have zE0 := mE.size
                  change wpSoft _ _ _ _ 13 1 _ _
                  refine wpSoft.value (n := 0) (w1 := (wE.alloc (Obj.cells #[Value.int .i64 (q : Int), Value.int .i64 0, Value.int .i64 o, Value.int .i64 ev, Value.int .i64 mv] 72))) _ rfl (by rfl) (by go_simp; first | done | exact ⟨rfl, rfl⟩ | with_reducible rfl) ⟨mE.trans (Mk.alloc wE (Obj.cells #[Value.int .i64 (q : Int), Value.int .i64 0, Value.int .i64 o, Value.int .i64 ev, Value.int .i64 mv] 72)), (Mk.alloc wE (Obj.cells #[Value.int .i64 (q : Int), Value.int .i64 0, Value.int .i64 o, Value.int .i64 ev, Value.int .i64 mv] 72)).cellAt k0, (Mk.alloc wE (Obj.cells #[Value.int .i64 (q : Int), Value.int .i64 0, Value.int .i64 o, Value.int .i64 ev, Value.int .i64 mv] 72)).cellAt r0, (Mk.alloc wE (Obj.cells #[Value.int .i64 (q : Int), Value.int .i64 0, Value.int .i64 o, Value.int .i64 ev, Value.int .i64 mv] 72)).cellAt r1, (Mk.alloc wE (Obj.cells #[Value.int .i64 (q : Int), Value.int .i64 0, Value.int .i64 o, Value.int .i64 ev, Value.int .i64 mv] 72)).cellAt r2, (Mk.alloc wE (Obj.cells #[Value.int .i64 (q : Int), Value.int .i64 0, Value.int .i64 o, Value.int .i64 ev, Value.int .i64 mv] 72)).cellAt u0, (Mk.alloc wE (Obj.cells #[Value.int .i64 (q : Int), Value.int .i64 0, Value.int .i64 o, Value.int .i64 ev, Value.int .i64 mv] 72)).cellAt u1, (Mk.alloc wE (Obj.cells #[Value.int .i64 (q : Int), Value.int .i64 0, Value.int .i64 o, Value.int .i64 ev, Value.int .i64 mv] 72)).cellAt u2, (Mk.alloc wE (Obj.cells #[Value.int .i64 (q : Int), Value.int .i64 0, Value.int .i64 o, Value.int .i64 ev, Value.int .i64 mv] 72)).cellAt q0, (Mk.alloc wE (Obj.cells #[Value.int .i64 (q : Int), Value.int .i64 0, Value.int .i64 o, Value.int .i64 ev, Value.int .i64 mv] 72)).cellAt q1, (Mk.alloc wE (Obj.cells #[Value.int .i64 (q : Int), Value.int .i64 0, Value.int .i64 o, Value.int .i64 ev, Value.int .i64 mv] 72)).cellAt q2, (Mk.alloc wE (Obj.cells #[Value.int .i64 (q : Int), Value.int .i64 0, Value.int .i64 o, Value.int .i64 ev, Value.int .i64 mv] 72)).cellAt q3, (Mk.alloc wE (Obj.cells #[Value.int .i64 (q : Int), Value.int .i64 0, Value.int .i64 o, Value.int .i64 ev, Value.int .i64 mv] 72)).cellAt q4, (Mk.alloc wE (Obj.cells #[Value.int .i64 (q : Int), Value.int .i64 0, Value.int .i64 o, Value.int .i64 ev, Value.int .i64 mv] 72)).cellAt d2⟩ ?_
                  have hh8 := hasR_new (cell := THop.cell) (nc := 5) (by decide) wE 72 (⟨(q : Int), 0, o, ev, mv⟩ : THop) #[Value.int .i64 (q : Int), Value.int .i64 0, Value.int .i64 o, Value.int .i64 ev, Value.int .i64 mv] (fun j hj => by match j, hj with | 0, _ => rfl | 1, _ => rfl | 2, _ => rfl | 3, _ => rfl | 4, _ => rfl)
                  intro wG0 mG0 hG0
                  clear mE k0 r0 r1 r2 u0 u1 u2 q0 q1 q2 q3 q4 d2
                  obtain ⟨mE, k0, r0, r1, r2, u0, u1, u2, q0, q1, q2, q3, q4, d2⟩ := hG0
                  replace hh8 := (hh8.mk mG0 (Nat.le_refl _) (.inr (Nat.le_refl _))).mono mG0.size
                  have zG := mG0.size
                  rw [World.size_alloc] at zG
                  try simp only [Act.put, List.getElem_toArray, List.getElem_cons_succ, List.getElem_cons_zero, List.setIfInBounds_toArray, List.set_cons_zero, List.set_cons_succ]
                  refine wpSoft.done ?_
                  simp only [List.drop_succ_cons, List.drop_zero]
                  have M9 := HM.out.trans mE
                  have hown8 := own_nilR wG0 WW.heap.size 72 5
                  have fXE := fun q2 => (mE.frozen (b := w2.heap.size) (o := q2) (by omega) (.inr (Nat.zero_le _))).trans (HFX.out q2)
                  have fRE := fun q2 => (mE.frozen (b := w.heap.size + 1 + 1) (o := q2) (by omega) (.inr (Nat.zero_le _))).trans (HFR.out q2)
                  have zzE := mE.size
                  go_wp2_with (at_builtin; refine wpList_appR4 (nc := 5) (cell := THop.cell) (by decide) oneHopC rfl (.tmp 74) (.tmp 85) 29 rfl WW.heap.size 72 i0 _ Tryz.underlying29 hi0 hz0 rfl hz1 (by rw [hz2]; decide) _ [] 0 rfl hown8 _ 1 1 [(⟨(q : Int), 0, o, ev, mv⟩ : THop)] rfl (fun h => by cases h) hh8 (by omega) (by omega) ?_; intro v9 w9 hown9 hgr9 hat9; have hneX : ∀ g, (Value.slice none 0 0).ownBlock = some g → g ≠ w2.heap.size := fun g hg => (by cases hg); have hneR : ∀ g, (Value.slice none 0 0).ownBlock = some g → g ≠ w.heap.size + 1 + 1 := fun g hg => (by cases hg); have hneX2 : ∀ g, v9.ownBlock = some g → g ≠ w2.heap.size := fun g hg => (by rcases hat9 with e | e <;> rw [e] at hg <;> first | exact hneX g hg | (injection hg with hg; omega)); have t0 := grown_cell u0 hgr9 hneX; have t1 := grown_cell u1 hgr9 hneX; have t2 := grown_cell u2 hgr9 hneX; have v0 := grown_cell r0 hgr9 hneR; have v1 := grown_cell r1 hgr9 hneR; have v2 := grown_cell r2 hgr9 hneR; have tX := fun q2 => grown_frz (fXE q2) (World.block_lt_of_cell? _ _ u0) hgr9 hneX; have tR := fun q2 => grown_frz (fRE q2) (World.block_lt_of_cell? _ _ r0) hgr9 hneR; have MA := M9.appR hgr9 (fun g hg => by cases hg); obtain ⟨A2, C2, rfl, hca2, hcb2⟩ := ownsRow_sliceR2 hown9)
                  try simp only [noPan]
                  try (go_wp2_with fail)
                  replace t0 := cell_set t0 ⟨w2.heap.size, 2, none⟩ (.slice A2 (0 + 1) C2) (.inr (by simp))
                  replace t1 := cell_set t1 ⟨w2.heap.size, 2, none⟩ (.slice A2 (0 + 1) C2) (.inr (by simp))
                  replace t2 := World.cell?_setCell_same _ _ (.slice A2 (0 + 1) C2) t2
                  replace v0 := cell_set v0 ⟨w2.heap.size, 2, none⟩ (.slice A2 (0 + 1) C2) (.inl (show w2.heap.size ≠ w.heap.size + 1 + 1 from by omega))
                  replace v1 := cell_set v1 ⟨w2.heap.size, 2, none⟩ (.slice A2 (0 + 1) C2) (.inl (show w2.heap.size ≠ w.heap.size + 1 + 1 from by omega))
                  replace v2 := cell_set v2 ⟨w2.heap.size, 2, none⟩ (.slice A2 (0 + 1) C2) (.inl (show w2.heap.size ≠ w.heap.size + 1 + 1 from by omega))
                  replace hown9 := own_put_ne hown9 ⟨w2.heap.size, 2, none⟩ (.slice A2 (0 + 1) C2) hneX2
                  replace MA := MA.put ⟨w2.heap.size, 2, none⟩ (.slice A2 (0 + 1) C2) (show w.heap.size ≤ w2.heap.size from by omega)
                  replace v0 := World.cell?_setCell_same _ _ (.int .i64 ts) v0
                  replace v1 := cell_set v1 ⟨w.heap.size + 1 + 1, 0, none⟩ (.int .i64 ts) (.inr (by simp))
                  replace v2 := cell_set v2 ⟨w.heap.size + 1 + 1, 0, none⟩ (.int .i64 ts) (.inr (by simp))
                  replace hown9 := own_put hown9 ⟨w.heap.size + 1 + 1, 0, none⟩ (.int .i64 ts) (show w.heap.size + 1 + 1 < _ from by omega)
                  replace MA := MA.put ⟨w.heap.size + 1 + 1, 0, none⟩ (.int .i64 ts) (show w.heap.size ≤ w.heap.size + 1 + 1 from by omega)
                  replace v0 := cell_set v0 ⟨w.heap.size + 1 + 1, 1, none⟩ (.int .i64 bt) (.inr (by simp))
                  replace v1 := World.cell?_setCell_same _ _ (.int .i64 bt) v1
                  replace v2 := cell_set v2 ⟨w.heap.size + 1 + 1, 1, none⟩ (.int .i64 bt) (.inr (by simp))
                  replace hown9 := own_put hown9 ⟨w.heap.size + 1 + 1, 1, none⟩ (.int .i64 bt) (show w.heap.size + 1 + 1 < _ from by omega)
                  replace MA := MA.put ⟨w.heap.size + 1 + 1, 1, none⟩ (.int .i64 bt) (show w.heap.size ≤ w.heap.size + 1 + 1 from by omega)
                  replace v0 := cell_set v0 ⟨w.heap.size + 1 + 1, 2, none⟩ (.slice A2 (0 + 1) C2) (.inr (by simp))
                  replace v1 := cell_set v1 ⟨w.heap.size + 1 + 1, 2, none⟩ (.slice A2 (0 + 1) C2) (.inr (by simp))
                  replace v2 := World.cell?_setCell_same _ _ (.slice A2 (0 + 1) C2) v2
                  replace hown9 := own_put hown9 ⟨w.heap.size + 1 + 1, 2, none⟩ (.slice A2 (0 + 1) C2) (show w.heap.size + 1 + 1 < _ from by omega)
                  replace MA := MA.put ⟨w.heap.size + 1 + 1, 2, none⟩ (.slice A2 (0 + 1) C2) (show w.heap.size ≤ w.heap.size + 1 + 1 from by omega)
                  generalize ((((w9.setCell ⟨w2.heap.size, 2, none⟩ (.slice A2 (0 + 1) C2)).setCell ⟨w.heap.size + 1 + 1, 0, none⟩ (.int .i64 ts)).setCell ⟨w.heap.size + 1 + 1, 1, none⟩ (.int .i64 bt)).setCell ⟨w.heap.size + 1 + 1, 2, none⟩ (.slice A2 (0 + 1) C2)) = wF at *
                  exact bodyPost_ret (v := .tuple #[.agg #[.int .i64 ts, .int .i64 bt, .slice A2 (0 + 1) C2], .bool true]) (by simp [results, Tryz.results9, go_sem, v0, v1, v2]) rfl (show OutTSegment (orT (orB zA n0 zl n1 p (q : Int) o ts bt) ts) (orT (orB zA n0 zl n1 p (q : Int) o ts bt) bt) (growR zA p ts bt [] 0 (q : Int) 0 o (orB zA n0 zl n1 p (q : Int) o ts bt)) (orB zA n0 zl n1 p (q : Int) o ts bt) w _ wF from by rw [HR.out, HGR.out]; exact ⟨_, _, _, rfl, ⟨hca2, hcb2⟩, (ownsRow_ownR (by decide) hown9).wide (by omega) (Nat.le_refl _), MA⟩)
              · have E1 : (kd == 1) = false := by simpa using e1
                have E2 : (kd == 2) = false := by simpa using e2
                have E3 : (kd != 1) = true := by simpa using e1
                have E4 : (kd != 2) = true := by simpa using e2
                have HR := Lib.hid (show orB zA n0 zl n1 p (q : Int) o ts bt = false by unfold orB; rw [HC.out, ← hcr.out, Q2.out, Q3.out, Q4.out, ← hkd.out, E1, E2]; first | done | rfl | simp)
                go_wp2_with fail
                have M := M4
                replace r0 := World.cell?_setCell_same _ _ (.int .i64 0) r0
                replace r1 := cell_set r1 ⟨w.heap.size + 1 + 1, 0, none⟩ (.int .i64 0) (.inr (by simp))
                replace r2 := cell_set r2 ⟨w.heap.size + 1 + 1, 0, none⟩ (.int .i64 0) (.inr (by simp))
                replace M := M.put ⟨w.heap.size + 1 + 1, 0, none⟩ (.int .i64 0) leR
                replace r0 := cell_set r0 ⟨w.heap.size + 1 + 1, 1, none⟩ (.int .i64 0) (.inr (by simp))
                replace r1 := World.cell?_setCell_same _ _ (.int .i64 0) r1
                replace r2 := cell_set r2 ⟨w.heap.size + 1 + 1, 1, none⟩ (.int .i64 0) (.inr (by simp))
                replace M := M.put ⟨w.heap.size + 1 + 1, 1, none⟩ (.int .i64 0) leR
                replace r0 := cell_set r0 ⟨w.heap.size + 1 + 1, 2, none⟩ (.slice none 0 0) (.inr (by simp))
                replace r1 := cell_set r1 ⟨w.heap.size + 1 + 1, 2, none⟩ (.slice none 0 0) (.inr (by simp))
                replace r2 := World.cell?_setCell_same _ _ (.slice none 0 0) r2
                replace M := M.put ⟨w.heap.size + 1 + 1, 2, none⟩ (.slice none 0 0) leR
                generalize (((w4.setCell ⟨w.heap.size + 1 + 1, 0, none⟩ (.int .i64 0)).setCell ⟨w.heap.size + 1 + 1, 1, none⟩ (.int .i64 0)).setCell ⟨w.heap.size + 1 + 1, 2, none⟩ (.slice none 0 0)) = wF at *
                exact bodyPost_ret (v := .tuple #[.agg #[.int .i64 0, .int .i64 0, .slice none 0 0], .bool false]) (by simp [results, Tryz.results9, go_sem, r0, r1, r2]) rfl (show OutTSegment (orT (orB zA n0 zl n1 p (q : Int) o ts bt) ts) (orT (orB zA n0 zl n1 p (q : Int) o ts bt) bt) (growR zA p ts bt [] 0 (q : Int) 0 o (orB zA n0 zl n1 p (q : Int) o ts bt)) (orB zA n0 zl n1 p (q : Int) o ts bt) w _ wF from by rw [HR.out]; exact ⟨_, _, _, rfl, ⟨fun _ => rfl, Nat.le_refl _⟩, OwnR.none_ _ _ _ _, M⟩)
end Go.Proofs.YtbbcpdgdihdmiaaGreatDoor
