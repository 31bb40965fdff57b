
/- WellFormed of both sides. -/
import Derived.Test.YtbkbkpnpllemfaaRealm
import Derived.Test.YtbkbkpnpllemfaaVerify
import Derived.Test.YtbkbkpnpllemfaaKindOf
import Derived.Test.YtbkbkpnpllemfaaBetaAt
import Derived.Test.YtbkbkpnpllemfaaAppR
import Derived.Test.YtbkbkpnpllemfaaWs
import Derived.Test.YtbkbkpnpllemfaaSeen
import Derived.Test.YtbkbkpnpllemfaaIntMark
namespace Go.Proofs.Ytbkbkpnpllemfaa
open Go.ChangeShapes Go.WideShapes Go.ChangeAt Go.RowKit
set_option linter.unusedVariables false
def remB (zl : List TLink) (n1 : Nat) (p x : THop) : Bool := ((remote zl p.nd p.eg n1).1 == x.nd) && ((remote zl p.nd p.eg n1).2 == x.ing)
def folB (zl : List TLink) (n1 : Nat) (p x : THop) : Bool := (p.eg != 0) && remB zl n1 p x
def ndAt (zs : List THop) (j : Nat) : Int := (zs.getD j default).nd
def wfI (n0 : Nat) (zl : List TLink) (n1 : Nat) (zs : List THop) (k : Nat) : Bool :=
  hopOk (zs.getD k default) && (isAsB n0 (zs.getD k default).nd && (!inUp (ndAt zs) (zs.getD k default).nd k && (k == 0 || folB zl n1 (zs.getD (k - 1) default) (zs.getD k default))))
def wfS (n0 : Nat) (zl : List TLink) (n1 : Nat) (zs : List THop) (n k : Nat) : Bool :=
  hopOk (zs.getD k default) && (isAsB n0 (zs.getD k default).nd && (!inUp (ndAt zs) (zs.getD k default).nd k && (!((zs.getD k default).eg == 0 && decide (k + 1 < n)) && (k == 0 || remB zl n1 (zs.getD (k - 1) default) (zs.getD k default)))))
def wfB (n0 : Nat) (zl : List TLink) (n1 : Nat) (zs : List THop) (n : Nat) : Bool := decide (1 ≤ n ∧ n ≤ 8) && ((zs.getD 0 default).ing == 0 && allN (wfI n0 zl n1 zs) n)
theorem wf_same (n0 : Nat) (zl : List TLink) (n1 : Nat) (zs : List THop) (n : Nat) : allN (wfS n0 zl n1 zs n) n = allN (wfI n0 zl n1 zs) n := by
  rw [Bool.eq_iff_iff, allN_iff, allN_iff]
  constructor
  · intro h k hk
    have h1 := h k hk
    simp only [wfS, wfI, folB, Bool.and_eq_true, Bool.or_eq_true, beq_iff_eq, bne_iff_ne] at h1 ⊢
    refine ⟨h1.1, h1.2.1, h1.2.2.1, ?_⟩
    rcases Nat.eq_zero_or_pos k with h0 | h0
    · exact .inl h0
    · refine .inr ⟨?_, h1.2.2.2.2.resolve_left (by omega)⟩
      have h2 := h (k - 1) (by omega)
      simp only [wfS, Bool.and_eq_true] at h2
      have h3 := h2.2.2.2.1
      intro he
      rw [he, decide_eq_true (by omega : k - 1 + 1 < n)] at h3
      simp at h3
  · intro h k hk
    have h1 := h k hk
    simp only [wfS, wfI, folB, Bool.and_eq_true, Bool.or_eq_true, beq_iff_eq, bne_iff_ne] at h1 ⊢
    refine ⟨h1.1, h1.2.1, h1.2.2.1, ?_, h1.2.2.2.imp id And.right⟩
    by_cases hn : k + 1 < n
    · have h2 := h (k + 1) hn
      simp only [wfI, folB, Bool.and_eq_true, Bool.or_eq_true, beq_iff_eq, bne_iff_ne, Nat.add_sub_cancel] at h2
      have h3 := (h2.2.2.2.resolve_left (by omega)).1
      have : ((zs.getD k default).eg == 0) = false := by simpa using h3
      rw [this]
      rfl
    · rw [decide_eq_false hn, Bool.and_false]
      rfl
theorem wf_nd {zs : List THop} {k : Nat} {n0 : Nat} {zl : List TLink} {n1 : Nat} (h : allN (wfI n0 zl n1 zs) k = true) : ∀ j, j < k → 0 ≤ ndAt zs j ∧ ndAt zs j ≤ 15 := by
  intro j hj
  have h1 := (allN_iff _ _).1 h j hj
  simp only [wfI, Bool.and_eq_true, hopOk, decide_eq_true_eq] at h1
  have := h1.1.1
  unfold ndAt
  omega
end Go.Proofs.Ytbkbkpnpllemfaa
namespace Go.Proofs.Ytbkbkpnpllemfaa
open Go.ChangeShapes Go.WideShapes Go.ChangeAt Go.RowKit
set_option linter.unusedVariables false
/-- A call that hands back a new row of numbers that it owns whole. -/
def OutOwnI (e : TypeId) (w : World) (R : List Int) (en : Ending) (w' : World) : Prop :=
  ∃ v, en = .returned v ∧ w'.ownsRow w.heap.size e 1 v R.length (R.map (.int .i64)) ∧ Mk0 w w'
theorem OutOwnI.of {w w' : World} {R : List Int} {v : Value} {n : Nat} {e : TypeId} (h : w'.ownsRow w.heap.size e 1 v n (R.map (.int .i64))) (hb : Mk0 w w') : OutOwnI e w R (.returned v) w' := by
  have hl : n = R.length := by have := h.1; simp at this; omega
  subst hl
  exact ⟨v, rfl, h, hb⟩
set_option maxRecDepth 100000 in
set_option maxHeartbeats 1600000 in
theorem specASes2 (x0 x1 : Int) (a : Option Addr) (n c B : Nat) (zs : List THop) (w : World) (h : HasHop w B a n zs) (hB : B ≤ w.heap.size) (hn : n ≤ 1048576) :
    Calls Try.prog 77 #[.agg #[.int .i64 x0, .int .i64 x1, .slice a n c]] w (OutOwnI 3 w (colN THop.nd zs n)) := by
  obtain ⟨i0, hi, hz0, hz1, hz2⟩ := info_parts infoI64
  have hby : i0.bytes ≤ 8 := by rw [hz2]; decide
  go_enter Try.func77, Try.ntmps77
  go_wp2_with fail
  have ho : ((w.alloc (Obj.cells #[Value.int .i64 x0, Value.int .i64 x1, Value.slice a n c] 28)).alloc (.cells #[] 3)).ownsRow (w.alloc (Obj.cells #[Value.int .i64 x0, Value.int .i64 x1, Value.slice a n c] 28)).heap.size 3 1 (.slice (some ⟨w.heap.size + 1, 0, none⟩) 0 0) 0 (([] : List Int).map (.int .i64)) := by
    have h1 := own_lit (w.alloc (Obj.cells #[Value.int .i64 x0, Value.int .i64 x1, Value.slice a n c] 28)) 3 [] (by simp)
    rw [World.size_alloc w] at h1 ⊢
    exact h1
  have hB0 : Below (w.alloc (Obj.cells #[Value.int .i64 x0, Value.int .i64 x1, Value.slice a n c] 28)).heap.size (w.alloc (Obj.cells #[Value.int .i64 x0, Value.int .i64 x1, Value.slice a n c] 28)) ((w.alloc (Obj.cells #[Value.int .i64 x0, Value.int .i64 x1, Value.slice a n c] 28)).alloc (.cells #[] 3)) := (Below.refl _ _).alloc (Nat.le_refl _) _
  go_loopw [3, 4] (fun v i wr => ∃ k : Nat, k ≤ n ∧ i = .int .i64 k ∧ wr.ownsRow (w.alloc (Obj.cells #[Value.int .i64 x0, Value.int .i64 x1, Value.slice a n c] 28)).heap.size 3 1 v k ((colN THop.nd zs k).map (.int .i64)) ∧ Below (w.alloc (Obj.cells #[Value.int .i64 x0, Value.int .i64 x1, Value.slice a n c] 28)).heap.size (w.alloc (Obj.cells #[Value.int .i64 x0, Value.int .i64 x1, Value.slice a n c] 28)) wr) (fun _ i _ => n - (intOf i).toNat)
  case atStart => exact ⟨0, Nat.zero_le _, rfl, ho, hB0⟩
  case round =>
    clear ho hB0
    obtain ⟨k, hk, rfl, ho, hB1⟩ := hrel
    have M1 := (Mk.alloc w (Obj.cells #[Value.int .i64 x0, Value.int .i64 x1, Value.slice a n c] 28)).trans (Mk.of_below hB1)
    have k2 : wr.cell? ⟨w.heap.size, 2, none⟩ = some (.slice a n c) := (Mk.of_below hB1).cellAt (by simp [go_sem])
    have hsz := hB1.size
    by_cases hlt : k < n
    · obtain ⟨b, off, x, rfl, hb, hx, d0, d1, d2, d3, d4⟩ := HasHop.at _ _ _ _ _ _ (h.mk M1 hB (.inr (Nat.le_refl _))) (show k < n by omega)
      have hbr := World.block_lt_of_cell? _ _ d0
      simp only at hbr
      have HE := Lib.hid (show colN THop.nd zs (k + 1) = colN THop.nd zs k ++ [x.nd] by rw [colN, hx.out])
      have hn1 := has_new .i64 wr 3 x.nd
      have ho' := ho.alloc (.cells #[.int .i64 x.nd] 3)
      have hb' := hB1.alloc hsz (.cells #[.int .i64 x.nd] 3)
      have hlo' : (w.alloc (Obj.cells #[Value.int .i64 x0, Value.int .i64 x1, Value.slice (some ⟨b, off, none⟩) n c] 28)).heap.size ≤ (wr.alloc (.cells #[.int .i64 x.nd] 3)).heap.size := by rw [World.size_alloc wr]; omega
      have hbnd : k + 1 ≤ 1073741824 := by omega
      go_wp2_with (at_builtin; refine wpList_app rfl (.tmp 13) (.tmp 20) 49 rfl _ 3 i0 Try.underlying49 hi hz0 hz1 hby _ (colN THop.nd zs k) k rfl ho' _ 1 1 [x.nd] rfl (fun h => by cases h) hn1 hbnd hlo' ?_; intro v2 w2 ho2 hg2 _)
      have hb2 := hb'.grown hg2 hlo' (fun g hg => (ho.lt g hg).1)
      go_roundw
      case rel => exact ⟨k + 1, by omega, by go_num, by rw [HE.out]; exact ho2, hb2⟩
      case measure => simp [intOf]; omega
    · obtain rfl : k = n := by omega
      go_wp2
      go_ret
      exact OutOwnI.of (own_low ho (by rw [World.size_alloc]; omega)) M1

end Go.Proofs.Ytbkbkpnpllemfaa
