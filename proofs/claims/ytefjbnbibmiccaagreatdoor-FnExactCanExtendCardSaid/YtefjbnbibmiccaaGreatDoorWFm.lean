
/- WellFormed of both sides. -/
import Derived.Test.YtefjbnbibmiccaaGreatDoorRealm
import Derived.Test.YtefjbnbibmiccaaGreatDoorVHop
import Derived.Test.YtefjbnbibmiccaaGreatDoorLkMore
import Derived.Test.YtefjbnbibmiccaaGreatDoorSegL
import Derived.Test.YtefjbnbibmiccaaGreatDoorAppR
import Derived.Test.YtefjbnbibmiccaaGreatDoorWk
import Derived.Test.YtefjbnbibmiccaaGreatDoorSetOps
import Derived.Test.YtefjbnbibmiccaaGreatDoorIntMark
namespace Go.Proofs.YtefjbnbibmiccaaGreatDoor
open Go.ChangeShapes Go.WideShapes Go.ChangeAt Go.RowKit
set_option linter.unusedVariables false
def remB (zl : List TLink) (n1 : Nat) (p x : THop) : Bool := ((remote zl p.nd p.eg n1).1 == x.nd) && ((remote zl p.nd p.eg n1).2 == x.ing)
def folB (zl : List TLink) (n1 : Nat) (p x : THop) : Bool := (p.eg != 0) && remB zl n1 p x
def ndAt (zs : List THop) (j : Nat) : Int := (zs.getD j default).nd
def wfI (n0 : Nat) (zl : List TLink) (n1 : Nat) (zs : List THop) (k : Nat) : Bool :=
  hopOk (zs.getD k default) && (isAsB n0 (zs.getD k default).nd && (!inUp (ndAt zs) (zs.getD k default).nd k && (k == 0 || folB zl n1 (zs.getD (k - 1) default) (zs.getD k default))))
def wfS (n0 : Nat) (zl : List TLink) (n1 : Nat) (zs : List THop) (n k : Nat) : Bool :=
  hopOk (zs.getD k default) && (isAsB n0 (zs.getD k default).nd && (!inUp (ndAt zs) (zs.getD k default).nd k && (!((zs.getD k default).eg == 0 && decide (k + 1 < n)) && (k == 0 || remB zl n1 (zs.getD (k - 1) default) (zs.getD k default)))))
def wfB (n0 : Nat) (zl : List TLink) (n1 : Nat) (zs : List THop) (n : Nat) : Bool := decide (1 ≤ n ∧ n ≤ 8) && ((zs.getD 0 default).ing == 0 && allN (wfI n0 zl n1 zs) n)
theorem wf_same (n0 : Nat) (zl : List TLink) (n1 : Nat) (zs : List THop) (n : Nat) : allN (wfS n0 zl n1 zs n) n = allN (wfI n0 zl n1 zs) n := by
  rw [Bool.eq_iff_iff, allN_iff, allN_iff]
  constructor
  · intro h k hk
    have h1 := h k hk
    simp only [wfS, wfI, folB, Bool.and_eq_true, Bool.or_eq_true, beq_iff_eq, bne_iff_ne] at h1 ⊢
    refine ⟨h1.1, h1.2.1, h1.2.2.1, ?_⟩
    rcases Nat.eq_zero_or_pos k with h0 | h0
    · exact .inl h0
    · refine .inr ⟨?_, h1.2.2.2.2.resolve_left (by omega)⟩
      have h2 := h (k - 1) (by omega)
      simp only [wfS, Bool.and_eq_true] at h2
      have h3 := h2.2.2.2.1
      intro he
      rw [he, decide_eq_true (by omega : k - 1 + 1 < n)] at h3
      simp at h3
  · intro h k hk
    have h1 := h k hk
    simp only [wfS, wfI, folB, Bool.and_eq_true, Bool.or_eq_true, beq_iff_eq, bne_iff_ne] at h1 ⊢
    refine ⟨h1.1, h1.2.1, h1.2.2.1, ?_, h1.2.2.2.imp id And.right⟩
    by_cases hn : k + 1 < n
    · have h2 := h (k + 1) hn
      simp only [wfI, folB, Bool.and_eq_true, Bool.or_eq_true, beq_iff_eq, bne_iff_ne, Nat.add_sub_cancel] at h2
      have h3 := (h2.2.2.2.resolve_left (by omega)).1
      have : ((zs.getD k default).eg == 0) = false := by simpa using h3
      rw [this]
      rfl
    · rw [decide_eq_false hn, Bool.and_false]
      rfl
theorem wf_nd {zs : List THop} {k : Nat} {n0 : Nat} {zl : List TLink} {n1 : Nat} (h : allN (wfI n0 zl n1 zs) k = true) : ∀ j, j < k → 0 ≤ ndAt zs j ∧ ndAt zs j ≤ 15 := by
  intro j hj
  have h1 := (allN_iff _ _).1 h j hj
  simp only [wfI, Bool.and_eq_true, hopOk, decide_eq_true_eq] at h1
  have := h1.1.1
  unfold ndAt
  omega
set_option maxRecDepth 100000 in
set_option maxHeartbeats 4000000 in
theorem implFollows (a0 a1 : Option Addr) (n0 c0 n1 c1 B : Nat) (zl : List TLink) (p x : THop) (w : World) (h : HasLink w B a1 n1 zl) (hB : B ≤ w.heap.size) (hn : n1 ≤ 1048576) :
    Calls Tryz.prog 62 #[.agg #[.slice a0 n0 c0, .slice a1 n1 c1], .agg #[.int .i64 p.nd, .int .i64 p.ing, .int .i64 p.eg, .int .i64 p.exp, .int .i64 p.mac], .agg #[.int .i64 x.nd, .int .i64 x.ing, .int .i64 x.eg, .int .i64 x.exp, .int .i64 x.mac]] w fun e w' => e = .returned (.bool (folB zl n1 p x)) ∧ Mk0 w w' := by
  have M0 := ((Mk.alloc w (Obj.cells #[Value.slice a0 n0 c0, Value.slice a1 n1 c1] 35)).new (Obj.cells #[Value.int .i64 p.nd, Value.int .i64 p.ing, Value.int .i64 p.eg, Value.int .i64 p.exp, Value.int .i64 p.mac] 67)).new (Obj.cells #[Value.int .i64 x.nd, Value.int .i64 x.ing, Value.int .i64 x.eg, Value.int .i64 x.exp, Value.int .i64 x.mac] 67)
  have p2 : (((w.alloc (Obj.cells #[Value.slice a0 n0 c0, Value.slice a1 n1 c1] 35)).alloc (Obj.cells #[Value.int .i64 p.nd, Value.int .i64 p.ing, Value.int .i64 p.eg, Value.int .i64 p.exp, Value.int .i64 p.mac] 67)).alloc (Obj.cells #[Value.int .i64 x.nd, Value.int .i64 x.ing, Value.int .i64 x.eg, Value.int .i64 x.exp, Value.int .i64 x.mac] 67)).cell? ⟨w.heap.size + 1, 2, none⟩ = some (.int .i64 p.eg) := by simp [go_sem]
  have q0 : (((w.alloc (Obj.cells #[Value.slice a0 n0 c0, Value.slice a1 n1 c1] 35)).alloc (Obj.cells #[Value.int .i64 p.nd, Value.int .i64 p.ing, Value.int .i64 p.eg, Value.int .i64 p.exp, Value.int .i64 p.mac] 67)).alloc (Obj.cells #[Value.int .i64 x.nd, Value.int .i64 x.ing, Value.int .i64 x.eg, Value.int .i64 x.exp, Value.int .i64 x.mac] 67)).cell? ⟨w.heap.size + 1 + 1, 0, none⟩ = some (.int .i64 x.nd) := by simp [go_sem]
  have q1 : (((w.alloc (Obj.cells #[Value.slice a0 n0 c0, Value.slice a1 n1 c1] 35)).alloc (Obj.cells #[Value.int .i64 p.nd, Value.int .i64 p.ing, Value.int .i64 p.eg, Value.int .i64 p.exp, Value.int .i64 p.mac] 67)).alloc (Obj.cells #[Value.int .i64 x.nd, Value.int .i64 x.ing, Value.int .i64 x.eg, Value.int .i64 x.exp, Value.int .i64 x.mac] 67)).cell? ⟨w.heap.size + 1 + 1, 1, none⟩ = some (.int .i64 x.ing) := by simp [go_sem]
  cases e0 : (p.eg == 0)
  · have e0' : (p.eg != 0) = true := by simp only [bne, e0]; rfl
    cases e1 : ((remote zl p.nd p.eg n1).1 == x.nd)
    · have HR := Lib.hid (show folB zl n1 p x = false by unfold folB remB; rw [e0', e1]; rfl)
      go_enter Tryz.func62, Tryz.ntmps62
      go_wp2_with fail
      refine (implRemote a0 a1 n0 c0 n1 c1 B zl p.nd p.eg _ (h.mk M0 hB (.inr (Nat.le_refl _))) (Nat.le_trans hB M0.size) hn).mono ?_
      rintro e w2 ⟨rfl, m2⟩
      replace p2 := m2.cellAt p2
      replace q0 := m2.cellAt q0
      replace q1 := m2.cellAt q1
      go_wp2_with fail
      go_ret
      exact ⟨retB HR.out.symm, M0.trans m2⟩
    · cases e2 : ((remote zl p.nd p.eg n1).2 == x.ing)
      · have HR := Lib.hid (show folB zl n1 p x = false by unfold folB remB; rw [e0', e1, e2]; rfl)
        go_enter Tryz.func62, Tryz.ntmps62
        go_wp2_with fail
        refine (implRemote a0 a1 n0 c0 n1 c1 B zl p.nd p.eg _ (h.mk M0 hB (.inr (Nat.le_refl _))) (Nat.le_trans hB M0.size) hn).mono ?_
        rintro e w2 ⟨rfl, m2⟩
        replace p2 := m2.cellAt p2
        replace q0 := m2.cellAt q0
        replace q1 := m2.cellAt q1
        go_wp2_with fail
        go_ret
        exact ⟨retB HR.out.symm, M0.trans m2⟩
      · have HR := Lib.hid (show folB zl n1 p x = true by unfold folB remB; rw [e0', e1, e2]; rfl)
        go_enter Tryz.func62, Tryz.ntmps62
        go_wp2_with fail
        refine (implRemote a0 a1 n0 c0 n1 c1 B zl p.nd p.eg _ (h.mk M0 hB (.inr (Nat.le_refl _))) (Nat.le_trans hB M0.size) hn).mono ?_
        rintro e w2 ⟨rfl, m2⟩
        replace p2 := m2.cellAt p2
        replace q0 := m2.cellAt q0
        replace q1 := m2.cellAt q1
        go_wp2_with fail
        go_ret
        exact ⟨retB HR.out.symm, M0.trans m2⟩
  · have e0' : (p.eg != 0) = false := by simp only [bne, e0]; rfl
    have HR := Lib.hid (show folB zl n1 p x = false by unfold folB remB; rw [e0']; rfl)
    go_enter Tryz.func62, Tryz.ntmps62
    go_wp2_with fail
    refine (implRemote a0 a1 n0 c0 n1 c1 B zl p.nd p.eg _ (h.mk M0 hB (.inr (Nat.le_refl _))) (Nat.le_trans hB M0.size) hn).mono ?_
    rintro e w2 ⟨rfl, m2⟩
    replace p2 := m2.cellAt p2
    replace q0 := m2.cellAt q0
    replace q1 := m2.cellAt q1
    go_wp2_with fail
    go_ret
    exact ⟨retB HR.out.symm, M0.trans m2⟩

end Go.Proofs.YtefjbnbibmiccaaGreatDoor
