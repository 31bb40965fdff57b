
/- WellFormed of both sides. -/
import Derived.Test.YtifhhfndoifbhaaGreatRealm
import Derived.Test.YtifhhfndoifbhaaGreatVerify
import Derived.Test.YtifhhfndoifbhaaGreatKindOf
import Derived.Test.YtifhhfndoifbhaaGreatBetaAt
import Derived.Test.YtifhhfndoifbhaaGreatAppR
import Derived.Test.YtifhhfndoifbhaaGreatWs
import Derived.Test.YtifhhfndoifbhaaGreatSeen
import Derived.Test.YtifhhfndoifbhaaGreatIntMark
namespace Go.Proofs.YtifhhfndoifbhaaGreat
open Go.ChangeShapes Go.WideShapes Go.ChangeAt Go.RowKit
set_option linter.unusedVariables false
def remB (zl : List TLink) (n1 : Nat) (p x : THop) : Bool := ((remote zl p.nd p.eg n1).1 == x.nd) && ((remote zl p.nd p.eg n1).2 == x.ing)
def folB (zl : List TLink) (n1 : Nat) (p x : THop) : Bool := (p.eg != 0) && remB zl n1 p x
def ndAt (zs : List THop) (j : Nat) : Int := (zs.getD j default).nd
def wfI (n0 : Nat) (zl : List TLink) (n1 : Nat) (zs : List THop) (k : Nat) : Bool :=
  hopOk (zs.getD k default) && (isAsB n0 (zs.getD k default).nd && (!inUp (ndAt zs) (zs.getD k default).nd k && (k == 0 || folB zl n1 (zs.getD (k - 1) default) (zs.getD k default))))
def wfS (n0 : Nat) (zl : List TLink) (n1 : Nat) (zs : List THop) (n k : Nat) : Bool :=
  hopOk (zs.getD k default) && (isAsB n0 (zs.getD k default).nd && (!inUp (ndAt zs) (zs.getD k default).nd k && (!((zs.getD k default).eg == 0 && decide (k + 1 < n)) && (k == 0 || remB zl n1 (zs.getD (k - 1) default) (zs.getD k default)))))
def wfB (n0 : Nat) (zl : List TLink) (n1 : Nat) (zs : List THop) (n : Nat) : Bool := decide (1 ≤ n ∧ n ≤ 8) && ((zs.getD 0 default).ing == 0 && allN (wfI n0 zl n1 zs) n)
theorem wf_same (n0 : Nat) (zl : List TLink) (n1 : Nat) (zs : List THop) (n : Nat) : allN (wfS n0 zl n1 zs n) n = allN (wfI n0 zl n1 zs) n := by
  rw [Bool.eq_iff_iff, allN_iff, allN_iff]
  constructor
  · intro h k hk
    have h1 := h k hk
    simp only [wfS, wfI, folB, Bool.and_eq_true, Bool.or_eq_true, beq_iff_eq, bne_iff_ne] at h1 ⊢
    refine ⟨h1.1, h1.2.1, h1.2.2.1, ?_⟩
    rcases Nat.eq_zero_or_pos k with h0 | h0
    · exact .inl h0
    · refine .inr ⟨?_, h1.2.2.2.2.resolve_left (by omega)⟩
      have h2 := h (k - 1) (by omega)
      simp only [wfS, Bool.and_eq_true] at h2
      have h3 := h2.2.2.2.1
      intro he
      rw [he, decide_eq_true (by omega : k - 1 + 1 < n)] at h3
      simp at h3
  · intro h k hk
    have h1 := h k hk
    simp only [wfS, wfI, folB, Bool.and_eq_true, Bool.or_eq_true, beq_iff_eq, bne_iff_ne] at h1 ⊢
    refine ⟨h1.1, h1.2.1, h1.2.2.1, ?_, h1.2.2.2.imp id And.right⟩
    by_cases hn : k + 1 < n
    · have h2 := h (k + 1) hn
      simp only [wfI, folB, Bool.and_eq_true, Bool.or_eq_true, beq_iff_eq, bne_iff_ne, Nat.add_sub_cancel] at h2
      have h3 := (h2.2.2.2.resolve_left (by omega)).1
      have : ((zs.getD k default).eg == 0) = false := by simpa using h3
      rw [this]
      rfl
    · rw [decide_eq_false hn, Bool.and_false]
      rfl
theorem wf_nd {zs : List THop} {k : Nat} {n0 : Nat} {zl : List TLink} {n1 : Nat} (h : allN (wfI n0 zl n1 zs) k = true) : ∀ j, j < k → 0 ≤ ndAt zs j ∧ ndAt zs j ≤ 15 := by
  intro j hj
  have h1 := (allN_iff _ _).1 h j hj
  simp only [wfI, Bool.and_eq_true, hopOk, decide_eq_true_eq] at h1
  have := h1.1.1
  unfold ndAt
  omega
end Go.Proofs.YtifhhfndoifbhaaGreat
namespace Go.Proofs.YtifhhfndoifbhaaGreat
open Go.ChangeShapes Go.WideShapes Go.ChangeAt Go.RowKit
set_option linter.unusedVariables false
/-- A call that hands back a new row of numbers that it owns whole. -/
def OutOwnW (e : TypeId) (w : World) (R : List Int) (en : Ending) (w' : World) : Prop :=
  ∃ v, en = .returned v ∧ w'.ownsRow w.heap.size e 1 v R.length (R.map (.int .i64)) ∧ Mk0 w w'
theorem OutOwnW.of {w w' : World} {R : List Int} {v : Value} {n : Nat} {e : TypeId} (h : w'.ownsRow w.heap.size e 1 v n (R.map (.int .i64))) (hb : Mk0 w w') : OutOwnW e w R (.returned v) w' := by
  have hl : n = R.length := by have := h.1; simp at this; omega
  subst hl
  exact ⟨v, rfl, h, hb⟩
end Go.Proofs.YtifhhfndoifbhaaGreat
