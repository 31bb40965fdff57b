
/- WellFormed of both sides. -/
import Derived.Test.YtdhdkhnefnbdgaaGreatDoorRealm
import Derived.Test.YtdhdkhnefnbdgaaGreatDoorVerify
import Derived.Test.YtdhdkhnefnbdgaaGreatDoorKindOf
import Derived.Test.YtdhdkhnefnbdgaaGreatDoorBetaAt
import Derived.Test.YtdhdkhnefnbdgaaGreatDoorAppR
import Derived.Test.YtdhdkhnefnbdgaaGreatDoorWs
import Derived.Test.YtdhdkhnefnbdgaaGreatDoorSeen
import Derived.Test.YtdhdkhnefnbdgaaGreatDoorIntMark
namespace Go.Proofs.YtdhdkhnefnbdgaaGreatDoor
open Go.ChangeShapes Go.WideShapes Go.ChangeAt Go.RowKit
set_option linter.unusedVariables false
def remB (zl : List TLink) (n1 : Nat) (p x : THop) : Bool := ((remote zl p.nd p.eg n1).1 == x.nd) && ((remote zl p.nd p.eg n1).2 == x.ing)
def folB (zl : List TLink) (n1 : Nat) (p x : THop) : Bool := (p.eg != 0) && remB zl n1 p x
def ndAt (zs : List THop) (j : Nat) : Int := (zs.getD j default).nd
def wfI (n0 : Nat) (zl : List TLink) (n1 : Nat) (zs : List THop) (k : Nat) : Bool :=
  hopOk (zs.getD k default) && (isAsB n0 (zs.getD k default).nd && (!inUp (ndAt zs) (zs.getD k default).nd k && (k == 0 || folB zl n1 (zs.getD (k - 1) default) (zs.getD k default))))
def wfS (n0 : Nat) (zl : List TLink) (n1 : Nat) (zs : List THop) (n k : Nat) : Bool :=
  hopOk (zs.getD k default) && (isAsB n0 (zs.getD k default).nd && (!inUp (ndAt zs) (zs.getD k default).nd k && (!((zs.getD k default).eg == 0 && decide (k + 1 < n)) && (k == 0 || remB zl n1 (zs.getD (k - 1) default) (zs.getD k default)))))
def wfB (n0 : Nat) (zl : List TLink) (n1 : Nat) (zs : List THop) (n : Nat) : Bool := decide (1 ≤ n ∧ n ≤ 8) && ((zs.getD 0 default).ing == 0 && allN (wfI n0 zl n1 zs) n)
theorem wf_same (n0 : Nat) (zl : List TLink) (n1 : Nat) (zs : List THop) (n : Nat) : allN (wfS n0 zl n1 zs n) n = allN (wfI n0 zl n1 zs) n := by
  rw [Bool.eq_iff_iff, allN_iff, allN_iff]
  constructor
  · intro h k hk
    have h1 := h k hk
    simp only [wfS, wfI, folB, Bool.and_eq_true, Bool.or_eq_true, beq_iff_eq, bne_iff_ne] at h1 ⊢
    refine ⟨h1.1, h1.2.1, h1.2.2.1, ?_⟩
    rcases Nat.eq_zero_or_pos k with h0 | h0
    · exact .inl h0
    · refine .inr ⟨?_, h1.2.2.2.2.resolve_left (by omega)⟩
      have h2 := h (k - 1) (by omega)
      simp only [wfS, Bool.and_eq_true] at h2
      have h3 := h2.2.2.2.1
      intro he
      rw [he, decide_eq_true (by omega : k - 1 + 1 < n)] at h3
      simp at h3
  · intro h k hk
    have h1 := h k hk
    simp only [wfS, wfI, folB, Bool.and_eq_true, Bool.or_eq_true, beq_iff_eq, bne_iff_ne] at h1 ⊢
    refine ⟨h1.1, h1.2.1, h1.2.2.1, ?_, h1.2.2.2.imp id And.right⟩
    by_cases hn : k + 1 < n
    · have h2 := h (k + 1) hn
      simp only [wfI, folB, Bool.and_eq_true, Bool.or_eq_true, beq_iff_eq, bne_iff_ne, Nat.add_sub_cancel] at h2
      have h3 := (h2.2.2.2.resolve_left (by omega)).1
      have : ((zs.getD k default).eg == 0) = false := by simpa using h3
      rw [this]
      rfl
    · rw [decide_eq_false hn, Bool.and_false]
      rfl
theorem wf_nd {zs : List THop} {k : Nat} {n0 : Nat} {zl : List TLink} {n1 : Nat} (h : allN (wfI n0 zl n1 zs) k = true) : ∀ j, j < k → 0 ≤ ndAt zs j ∧ ndAt zs j ≤ 15 := by
  intro j hj
  have h1 := (allN_iff _ _).1 h j hj
  simp only [wfI, Bool.and_eq_true, hopOk, decide_eq_true_eq] at h1
  have := h1.1.1
  unfold ndAt
  omega
set_option maxRecDepth 100000 in
set_option maxHeartbeats 4000000 in
theorem implFollows (a0 a1 : Option Addr) (n0 c0 n1 c1 B : Nat) (zl : List TLink) (p x : THop) (w : World) (h : HasLink w B a1 n1 zl) (hB : B ≤ w.heap.size) (hn : n1 ≤ 1048576) :
    Calls Tryz.prog 79 #[.agg #[.slice a0 n0 c0, .slice a1 n1 c1], .agg #[.int .i64 p.nd, .int .i64 p.ing, .int .i64 p.eg, .int .i64 p.exp, .int .i64 p.mac], .agg #[.int .i64 x.nd, .int .i64 x.ing, .int .i64 x.eg, .int .i64 x.exp, .int .i64 x.mac]] w fun e w' => e = .returned (.bool (folB zl n1 p x)) ∧ Mk0 w w' := by
  have M0 := ((Mk.alloc w (Obj.cells #[Value.slice a0 n0 c0, Value.slice a1 n1 c1] 35)).new (Obj.cells #[Value.int .i64 p.nd, Value.int .i64 p.ing, Value.int .i64 p.eg, Value.int .i64 p.exp, Value.int .i64 p.mac] 61)).new (Obj.cells #[Value.int .i64 x.nd, Value.int .i64 x.ing, Value.int .i64 x.eg, Value.int .i64 x.exp, Value.int .i64 x.mac] 61)
  have p2 : (((w.alloc (Obj.cells #[Value.slice a0 n0 c0, Value.slice a1 n1 c1] 35)).alloc (Obj.cells #[Value.int .i64 p.nd, Value.int .i64 p.ing, Value.int .i64 p.eg, Value.int .i64 p.exp, Value.int .i64 p.mac] 61)).alloc (Obj.cells #[Value.int .i64 x.nd, Value.int .i64 x.ing, Value.int .i64 x.eg, Value.int .i64 x.exp, Value.int .i64 x.mac] 61)).cell? ⟨w.heap.size + 1, 2, none⟩ = some (.int .i64 p.eg) := by simp [go_sem]
  have q0 : (((w.alloc (Obj.cells #[Value.slice a0 n0 c0, Value.slice a1 n1 c1] 35)).alloc (Obj.cells #[Value.int .i64 p.nd, Value.int .i64 p.ing, Value.int .i64 p.eg, Value.int .i64 p.exp, Value.int .i64 p.mac] 61)).alloc (Obj.cells #[Value.int .i64 x.nd, Value.int .i64 x.ing, Value.int .i64 x.eg, Value.int .i64 x.exp, Value.int .i64 x.mac] 61)).cell? ⟨w.heap.size + 1 + 1, 0, none⟩ = some (.int .i64 x.nd) := by simp [go_sem]
  have q1 : (((w.alloc (Obj.cells #[Value.slice a0 n0 c0, Value.slice a1 n1 c1] 35)).alloc (Obj.cells #[Value.int .i64 p.nd, Value.int .i64 p.ing, Value.int .i64 p.eg, Value.int .i64 p.exp, Value.int .i64 p.mac] 61)).alloc (Obj.cells #[Value.int .i64 x.nd, Value.int .i64 x.ing, Value.int .i64 x.eg, Value.int .i64 x.exp, Value.int .i64 x.mac] 61)).cell? ⟨w.heap.size + 1 + 1, 1, none⟩ = some (.int .i64 x.ing) := by simp [go_sem]
  cases e0 : (p.eg == 0)
  · have e0' : (p.eg != 0) = true := by simp only [bne, e0]; rfl
    cases e1 : ((remote zl p.nd p.eg n1).1 == x.nd)
    · have HR := Lib.hid (show folB zl n1 p x = false by unfold folB remB; rw [e0', e1]; rfl)
      go_enter Tryz.func79, Tryz.ntmps79
      go_wp2_with fail
      refine (implRemote a0 a1 n0 c0 n1 c1 B zl p.nd p.eg _ (h.mk M0 hB (.inr (Nat.le_refl _))) (Nat.le_trans hB M0.size) hn).mono ?_
      rintro e w2 ⟨rfl, m2⟩
      replace p2 := m2.cellAt p2
      replace q0 := m2.cellAt q0
      replace q1 := m2.cellAt q1
      go_wp2_with fail
      go_ret
      exact ⟨retB HR.out.symm, M0.trans m2⟩
    · cases e2 : ((remote zl p.nd p.eg n1).2 == x.ing)
      · have HR := Lib.hid (show folB zl n1 p x = false by unfold folB remB; rw [e0', e1, e2]; rfl)
        go_enter Tryz.func79, Tryz.ntmps79
        go_wp2_with fail
        refine (implRemote a0 a1 n0 c0 n1 c1 B zl p.nd p.eg _ (h.mk M0 hB (.inr (Nat.le_refl _))) (Nat.le_trans hB M0.size) hn).mono ?_
        rintro e w2 ⟨rfl, m2⟩
        replace p2 := m2.cellAt p2
        replace q0 := m2.cellAt q0
        replace q1 := m2.cellAt q1
        go_wp2_with fail
        go_ret
        exact ⟨retB HR.out.symm, M0.trans m2⟩
      · have HR := Lib.hid (show folB zl n1 p x = true by unfold folB remB; rw [e0', e1, e2]; rfl)
        go_enter Tryz.func79, Tryz.ntmps79
        go_wp2_with fail
        refine (implRemote a0 a1 n0 c0 n1 c1 B zl p.nd p.eg _ (h.mk M0 hB (.inr (Nat.le_refl _))) (Nat.le_trans hB M0.size) hn).mono ?_
        rintro e w2 ⟨rfl, m2⟩
        replace p2 := m2.cellAt p2
        replace q0 := m2.cellAt q0
        replace q1 := m2.cellAt q1
        go_wp2_with fail
        go_ret
        exact ⟨retB HR.out.symm, M0.trans m2⟩
  · have e0' : (p.eg != 0) = false := by simp only [bne, e0]; rfl
    have HR := Lib.hid (show folB zl n1 p x = false by unfold folB remB; rw [e0']; rfl)
    go_enter Tryz.func79, Tryz.ntmps79
    go_wp2_with fail
    refine (implRemote a0 a1 n0 c0 n1 c1 B zl p.nd p.eg _ (h.mk M0 hB (.inr (Nat.le_refl _))) (Nat.le_trans hB M0.size) hn).mono ?_
    rintro e w2 ⟨rfl, m2⟩
    replace p2 := m2.cellAt p2
    replace q0 := m2.cellAt q0
    replace q1 := m2.cellAt q1
    go_wp2_with fail
    go_ret
    exact ⟨retB HR.out.symm, M0.trans m2⟩

end Go.Proofs.YtdhdkhnefnbdgaaGreatDoor
namespace Go.Proofs.YtdhdkhnefnbdgaaGreatDoor
open Go.ChangeShapes Go.WideShapes Go.ChangeAt Go.RowKit
set_option linter.unusedVariables false
/-- A call that hands back a new row of numbers that it owns whole. -/
def OutOwnW (e : TypeId) (w : World) (R : List Int) (en : Ending) (w' : World) : Prop :=
  ∃ v, en = .returned v ∧ w'.ownsRow w.heap.size e 1 v R.length (R.map (.int .i64)) ∧ Mk0 w w'
theorem OutOwnW.of {w w' : World} {R : List Int} {v : Value} {n : Nat} {e : TypeId} (h : w'.ownsRow w.heap.size e 1 v n (R.map (.int .i64))) (hb : Mk0 w w') : OutOwnW e w R (.returned v) w' := by
  have hl : n = R.length := by have := h.1; simp at this; omega
  subst hl
  exact ⟨v, rfl, h, hb⟩
set_option maxRecDepth 100000 in
set_option maxHeartbeats 1600000 in
theorem specASes2 (x0 x1 : Int) (a : Option Addr) (n c B : Nat) (zs : List THop) (w : World) (h : HasHop w B a n zs) (hB : B ≤ w.heap.size) (hn : n ≤ 1048576) :
    Calls Tryz.prog 25 #[.agg #[.int .i64 x0, .int .i64 x1, .slice a n c]] w (OutOwnW 3 w (colN THop.nd zs n)) := by
  obtain ⟨i0, hi, hz0, hz1, hz2⟩ := info_parts infoI64
  have hby : i0.bytes ≤ 8 := by rw [hz2]; decide
  go_enter Tryz.func25, Tryz.ntmps25
  go_wp2_with fail
  have ho : ((w.alloc (Obj.cells #[Value.int .i64 x0, Value.int .i64 x1, Value.slice a n c] 39)).alloc (.cells #[] 3)).ownsRow (w.alloc (Obj.cells #[Value.int .i64 x0, Value.int .i64 x1, Value.slice a n c] 39)).heap.size 3 1 (.slice (some ⟨w.heap.size + 1, 0, none⟩) 0 0) 0 (([] : List Int).map (.int .i64)) := by
    have h1 := own_lit (w.alloc (Obj.cells #[Value.int .i64 x0, Value.int .i64 x1, Value.slice a n c] 39)) 3 [] (by simp)
    rw [World.size_alloc w] at h1 ⊢
    exact h1
  have hB0 : Below (w.alloc (Obj.cells #[Value.int .i64 x0, Value.int .i64 x1, Value.slice a n c] 39)).heap.size (w.alloc (Obj.cells #[Value.int .i64 x0, Value.int .i64 x1, Value.slice a n c] 39)) ((w.alloc (Obj.cells #[Value.int .i64 x0, Value.int .i64 x1, Value.slice a n c] 39)).alloc (.cells #[] 3)) := (Below.refl _ _).alloc (Nat.le_refl _) _
  go_loopw [3, 4] (fun v i wr => ∃ k : Nat, k ≤ n ∧ i = .int .i64 k ∧ wr.ownsRow (w.alloc (Obj.cells #[Value.int .i64 x0, Value.int .i64 x1, Value.slice a n c] 39)).heap.size 3 1 v k ((colN THop.nd zs k).map (.int .i64)) ∧ Below (w.alloc (Obj.cells #[Value.int .i64 x0, Value.int .i64 x1, Value.slice a n c] 39)).heap.size (w.alloc (Obj.cells #[Value.int .i64 x0, Value.int .i64 x1, Value.slice a n c] 39)) wr) (fun _ i _ => n - (intOf i).toNat)
  case atStart => exact ⟨0, Nat.zero_le _, rfl, ho, hB0⟩
  case round =>
    clear ho hB0
    obtain ⟨k, hk, rfl, ho, hB1⟩ := hrel
    have M1 := (Mk.alloc w (Obj.cells #[Value.int .i64 x0, Value.int .i64 x1, Value.slice a n c] 39)).trans (Mk.of_below hB1)
    have k2 : wr.cell? ⟨w.heap.size, 2, none⟩ = some (.slice a n c) := (Mk.of_below hB1).cellAt (by simp [go_sem])
    have hsz := hB1.size
    by_cases hlt : k < n
    · obtain ⟨b, off, x, rfl, hb, hx, d0, d1, d2, d3, d4⟩ := HasHop.at _ _ _ _ _ _ (h.mk M1 hB (.inr (Nat.le_refl _))) (show k < n by omega)
      have hbr := World.block_lt_of_cell? _ _ d0
      simp only at hbr
      have HE := Lib.hid (show colN THop.nd zs (k + 1) = colN THop.nd zs k ++ [x.nd] by rw [colN, hx.out])
      have hn1 := has_new .i64 wr 3 x.nd
      have ho' := ho.alloc (.cells #[.int .i64 x.nd] 3)
      have hb' := hB1.alloc hsz (.cells #[.int .i64 x.nd] 3)
      have hlo' : (w.alloc (Obj.cells #[Value.int .i64 x0, Value.int .i64 x1, Value.slice (some ⟨b, off, none⟩) n c] 39)).heap.size ≤ (wr.alloc (.cells #[.int .i64 x.nd] 3)).heap.size := by rw [World.size_alloc wr]; omega
      have hbnd : k + 1 ≤ 1073741824 := by omega
      go_wp2_with (at_builtin; refine wpList_app rfl (.tmp 13) (.tmp 20) 58 rfl _ 3 i0 Tryz.underlying58 hi hz0 hz1 hby _ (colN THop.nd zs k) k rfl ho' _ 1 1 [x.nd] rfl (fun h => by cases h) hn1 hbnd hlo' ?_; intro v2 w2 ho2 hg2 _)
      have hb2 := hb'.grown hg2 hlo' (fun g hg => (ho.lt g hg).1)
      go_roundw
      case rel => exact ⟨k + 1, by omega, by go_num, by rw [HE.out]; exact ho2, hb2⟩
      case measure => simp [intOf]; omega
    · obtain rfl : k = n := by omega
      go_wp2
      go_ret
      exact OutOwnW.of (own_low ho (by rw [World.size_alloc]; omega)) M1

set_option maxRecDepth 100000 in
set_option maxHeartbeats 40000000 in
theorem specWF (a0 a1 : Option Addr) (n0 c0 n1 c1 B : Nat) (zl : List TLink) (x0 x1 : Int) (a : Option Addr) (n c B' : Nat) (zs : List THop) (w : World) (hl : HasLink w B a1 n1 zl) (hB : B ≤ w.heap.size) (hn0 : n0 ≤ 1048576) (hn1 : n1 ≤ 1048576) (h : HasHop w B' a n zs) (hB' : B' ≤ w.heap.size) (hn : n ≤ 1048576) :
    Calls Tryz.prog 47 #[.agg #[.slice a0 n0 c0, .slice a1 n1 c1], .agg #[.int .i64 x0, .int .i64 x1, .slice a n c]] w fun e w' => e = .returned (.bool (wfB n0 zl n1 zs n)) ∧ Mk0 w w' := by
  have M0 := (Mk.alloc w (Obj.cells #[Value.slice a0 n0 c0, Value.slice a1 n1 c1] 35)).new (Obj.cells #[Value.int .i64 x0, Value.int .i64 x1, Value.slice a n c] 39)
  have k0 : ((w.alloc (Obj.cells #[Value.slice a0 n0 c0, Value.slice a1 n1 c1] 35)).alloc (Obj.cells #[Value.int .i64 x0, Value.int .i64 x1, Value.slice a n c] 39)).cell? ⟨w.heap.size, 0, none⟩ = some (.slice a0 n0 c0) := by simp [go_sem]
  have k1 : ((w.alloc (Obj.cells #[Value.slice a0 n0 c0, Value.slice a1 n1 c1] 35)).alloc (Obj.cells #[Value.int .i64 x0, Value.int .i64 x1, Value.slice a n c] 39)).cell? ⟨w.heap.size, 1, none⟩ = some (.slice a1 n1 c1) := by simp [go_sem]
  have j2 : ((w.alloc (Obj.cells #[Value.slice a0 n0 c0, Value.slice a1 n1 c1] 35)).alloc (Obj.cells #[Value.int .i64 x0, Value.int .i64 x1, Value.slice a n c] 39)).cell? ⟨w.heap.size + 1, 2, none⟩ = some (.slice a n c) := by simp [go_sem]
  have hsz0 := M0.size
  by_cases hr : 1 ≤ n ∧ n ≤ 8
  · have HN := Lib.hid (show (1 : Int) ≤ (n : Int) ∧ (n : Int) ≤ 8 by omega)
    have hnp : 0 < n := by omega
    have hn8 : n ≤ 8 := by omega
    have hrT := decide_eq_true hr
    have HRT := Lib.hid hrT
    clear hr hrT
    obtain ⟨b, off, y, rfl, hb, hy, e0, e1, e2, e3, e4⟩ := HasHop.at _ _ _ _ _ _ (h.mk M0 hB' (.inr (Nat.le_refl _))) hnp
    simp only [Nat.zero_mul, Nat.add_zero] at e0 e1 e2 e3 e4
    clear e0 e2 e3 e4
    have i0 : (0 : Int) < (n : Int) := by omega
    cases e : (y.ing == 0)
    · have HR := Lib.hid (show wfB n0 zl n1 zs n = false by unfold wfB; rw [HRT.out, ← hy.out, e]; rfl)
      have e' : (y.ing != 0) = true := by simp only [bne, e]; rfl
      clear e
      go_enter Tryz.func47, Tryz.ntmps47
      go_wp2_with fail
      refine (specInYes _ _ _ _ HN.out.1 HN.out.2).mono ?_
      rintro e w' ⟨rfl, rfl⟩
      go_wp2_with fail
      go_ret
      exact ⟨retB HR.out.symm, M0⟩
    · have HR := Lib.hid (show wfB n0 zl n1 zs n = allN (wfI n0 zl n1 zs) n by unfold wfB; rw [HRT.out, ← hy.out, e]; rfl)
      have e' : (y.ing != 0) = false := by simp only [bne, e]; rfl
      clear e
      go_enter Tryz.func47, Tryz.ntmps47
      go_wp2_with fail
      refine (specInYes _ _ _ _ HN.out.1 HN.out.2).mono ?_
      rintro e w' ⟨rfl, rfl⟩
      go_wp2_with fail
      clear e1
      have mE := M0
      refine (specASes2 x0 x1 (some ⟨b, off, none⟩) n c B' zs _ (h.mk mE hB' (.inr (Nat.le_refl _))) (Nat.le_trans hB' mE.size) hn).mono ?_
      rintro e w2 ⟨v2, rfl, ow, m2⟩
      replace k0 := m2.cellAt k0
      replace k1 := m2.cellAt k1
      replace j2 := m2.cellAt j2
      have M2 := mE.trans m2
      obtain ⟨A, cc, rfl, hcA, hcc⟩ := ownsRow_sliceR2 ow
      rw [colN_len] at hcc ow ⊢
      have hI := (ownsRow_own ow).has
      clear ow mE m2
      have hN2 : (0 : Int) ≤ (n : Int) := by omega
      go_wp2_with fail
      go_loopw [4, 6] (fun r i wr => r = .bool false ∧ ∃ k : Nat, k ≤ n ∧ i = .int .i64 k ∧ Hid (allN (wfS n0 zl n1 zs n) k = true) ∧ Mk0 w2 wr) (fun _ i _ => n - (intOf i).toNat)
      case atStart => exact ⟨rfl, 0, Nat.zero_le _, rfl, rfl, Mk.refl _ _ _⟩
      case round =>
        obtain ⟨rfl, k, hk, rfl, hS, hM⟩ := hrel
        replace k0 := hM.cellAt k0
        replace k1 := hM.cellAt k1
        replace j2 := hM.cellAt j2
        have hM' := M2.trans hM
        by_cases hlt : k < n
        · obtain ⟨b', off', x, eb, hb2, hx, d0, d1, d2, d3, d4⟩ := HasHop.at _ _ _ _ _ _ (h.mk hM' hB' (.inr (Nat.le_refl _))) hlt
          simp only [Option.some.injEq, Addr.mk.injEq, and_true] at eb
          obtain ⟨rfl, rfl⟩ := eb
          have hbr := World.block_lt_of_cell? _ _ d0
          have hbq := World.block_lt_of_cell? _ _ k0
          have hbj := World.block_lt_of_cell? _ _ j2
          simp only at hbr hbq hbj
          have i1 : (0 : Int) ≤ (k : Int) := by omega
          have i2 : (k : Int) < (n : Int) := by omega
          have MX := Mk.alloc wr (Obj.cells #[Value.int .i64 x.nd, Value.int .i64 x.ing, Value.int .i64 x.eg, Value.int .i64 x.exp, Value.int .i64 x.mac] 61)
          have q0 : (wr.alloc (Obj.cells #[Value.int .i64 x.nd, Value.int .i64 x.ing, Value.int .i64 x.eg, Value.int .i64 x.exp, Value.int .i64 x.mac] 61)).cell? ⟨wr.heap.size, 0, none⟩ = some (.int .i64 x.nd) := by simp [go_sem]
          have q1 : (wr.alloc (Obj.cells #[Value.int .i64 x.nd, Value.int .i64 x.ing, Value.int .i64 x.eg, Value.int .i64 x.exp, Value.int .i64 x.mac] 61)).cell? ⟨wr.heap.size, 1, none⟩ = some (.int .i64 x.ing) := by simp [go_sem]
          have q2 : (wr.alloc (Obj.cells #[Value.int .i64 x.nd, Value.int .i64 x.ing, Value.int .i64 x.eg, Value.int .i64 x.exp, Value.int .i64 x.mac] 61)).cell? ⟨wr.heap.size, 2, none⟩ = some (.int .i64 x.eg) := by simp [go_sem]
          have q3 : (wr.alloc (Obj.cells #[Value.int .i64 x.nd, Value.int .i64 x.ing, Value.int .i64 x.eg, Value.int .i64 x.exp, Value.int .i64 x.mac] 61)).cell? ⟨wr.heap.size, 3, none⟩ = some (.int .i64 x.exp) := by simp [go_sem]
          have q4 : (wr.alloc (Obj.cells #[Value.int .i64 x.nd, Value.int .i64 x.ing, Value.int .i64 x.eg, Value.int .i64 x.exp, Value.int .i64 x.mac] 61)).cell? ⟨wr.heap.size, 4, none⟩ = some (.int .i64 x.mac) := by simp [go_sem]
          have j2w := j2
          replace k0 := MX.cellAt k0
          replace k1 := MX.cellAt k1
          replace j2 := MX.cellAt j2
          have MR := hM'.trans MX
          have hMX := hM.trans MX
          have hcong : inUp (fun j => (colN THop.nd zs k).getD j 0) x.nd k = inUp (ndAt zs) x.nd k := inUp_congr k fun j hj => colN_get _ _ _ _ hj
          have HI := Lib.hid (fun (wv : World) (m : Mk0 (wr.alloc (Obj.cells #[Value.int .i64 x.nd, Value.int .i64 x.ing, Value.int .i64 x.eg, Value.int .i64 x.exp, Value.int .i64 x.mac] 61)) wv) => show Has .i64 wv w2.heap.size A k (colN THop.nd zs k) from ⟨colN_len _ _ _, fun hk0 => by obtain ⟨bb, oo, ea, hbb, hcc'⟩ := hI.2 (by omega); exact ⟨bb, oo, ea, hbb, fun i hi => by rw [colN_get _ _ _ _ hi, ← colN_get THop.nd zs n i (by omega)]; exact (hMX.trans m).cellAt (hcc' i (by omega))⟩⟩)
          have i3 : (k : Int) ≤ (cc : Int) := by omega
          have hw2 : IntKind.i64.wrap ((n : Int) - 1) = (n : Int) - 1 := by rw [IntKind.wrap_i64]; omega
          cases hA : hopOk x
          · have HE := Lib.hid (allN_stop (p := wfS n0 zl n1 zs n) (n := n) (show (wfS n0 zl n1 zs n) k = false by unfold wfS; rw [← hx.out]; rw [hA]; rfl) hlt)
            have HA := Lib.hid hA
            clear hA
            go_wp2_with fail
            refine wp_region_wk (fun w' => Mk0 (wr.alloc (Obj.cells #[Value.int .i64 x.nd, Value.int .i64 x.ing, Value.int .i64 x.eg, Value.int .i64 x.exp, Value.int .i64 x.mac] 61)) w' ∧ w'.cell? ⟨w.heap.size, 0, none⟩ = some (.slice a0 n0 c0) ∧ w'.cell? ⟨w.heap.size, 1, none⟩ = some (.slice a1 n1 c1) ∧ w'.cell? ⟨w.heap.size + 1, 2, none⟩ = some (.slice (some ⟨b, off, none⟩) n c) ∧ w'.cell? ⟨wr.heap.size, 0, none⟩ = some (.int .i64 x.nd) ∧ w'.cell? ⟨wr.heap.size, 1, none⟩ = some (.int .i64 x.ing) ∧ w'.cell? ⟨wr.heap.size, 2, none⟩ = some (.int .i64 x.eg) ∧ w'.cell? ⟨wr.heap.size, 3, none⟩ = some (.int .i64 x.exp) ∧ w'.cell? ⟨wr.heap.size, 4, none⟩ = some (.int .i64 x.mac)) (by kernel_rfl) (by kernel_rfl) (⟨Mk.drew1 _, k0, k1, j2, q0, q1, q2, q3, q4⟩) ?_
            change Wk _ _ _ _ 31 0 _
            first | (refine Wk.skip (m := 30) (k := 0) rfl (by rfl) ?_) | (refine Wk.step (m := 30) (k := 0) (v := _) rfl (by rfl) (fun wv hS => by obtain ⟨s0, s1, s2, s3, s4, s5, s6, s7, s8⟩ := hS; go_simp; try with_reducible rfl) ?_)
            try simp only [Act.put, List.getElem_toArray, List.getElem_cons_zero, List.setIfInBounds_toArray, List.set_cons_zero, List.set_cons_succ]
            refine Wk.call (m := 29) (k := 1) (v := .bool false) _ _ rfl (by rfl) (fun wv hS => by obtain ⟨s0, s1, s2, s3, s4, s5, s6, s7, s8⟩ := hS; go_simp; first | done | exact ⟨rfl, rfl⟩ | with_reducible rfl) (fun wv hS => ?_) ?_; · obtain ⟨s0, s1, s2, s3, s4, s5, s6, s7, s8⟩ := hS; refine (specVHop x.nd x.ing x.eg x.exp x.mac wv).mono ?_; rintro e w' ⟨he, mm⟩; exact ⟨by rw [he, HA.out], s0.trans mm, mm.cellAt s1, mm.cellAt s2, mm.cellAt s3, mm.cellAt s4, mm.cellAt s5, mm.cellAt s6, mm.cellAt s7, mm.cellAt s8⟩
            try simp only [Act.put, List.getElem_toArray, List.getElem_cons_succ, List.getElem_cons_zero, List.setIfInBounds_toArray, List.set_cons_zero, List.set_cons_succ]
            first | (refine Wk.skip (m := 28) (k := 2) rfl (by rfl) ?_) | (refine Wk.step (m := 28) (k := 2) (v := _) rfl (by rfl) (fun wv hS => by obtain ⟨s0, s1, s2, s3, s4, s5, s6, s7, s8⟩ := hS; go_simp; try with_reducible rfl) ?_)
            try simp only [Act.put, List.getElem_toArray, List.getElem_cons_succ, List.getElem_cons_zero, List.setIfInBounds_toArray, List.set_cons_zero, List.set_cons_succ]
            first | (refine Wk.skip (m := 27) (k := 3) rfl (by rfl) ?_) | (refine Wk.step (m := 27) (k := 3) (v := _) rfl (by rfl) (fun wv hS => by obtain ⟨s0, s1, s2, s3, s4, s5, s6, s7, s8⟩ := hS; go_simp; try with_reducible rfl) ?_)
            try simp only [Act.put, List.getElem_toArray, List.getElem_cons_succ, List.getElem_cons_zero, List.setIfInBounds_toArray, List.set_cons_zero, List.set_cons_succ]
            first | (refine Wk.skip (m := 26) (k := 4) rfl (by rfl) ?_) | (refine Wk.step (m := 26) (k := 4) (v := _) rfl (by rfl) (fun wv hS => by obtain ⟨s0, s1, s2, s3, s4, s5, s6, s7, s8⟩ := hS; go_simp; try with_reducible rfl) ?_)
            try simp only [Act.put, List.getElem_toArray, List.getElem_cons_succ, List.getElem_cons_zero, List.setIfInBounds_toArray, List.set_cons_zero, List.set_cons_succ]
            first | (refine Wk.skip (m := 25) (k := 5) rfl (by rfl) ?_) | (refine Wk.step (m := 25) (k := 5) (v := _) rfl (by rfl) (fun wv hS => by obtain ⟨s0, s1, s2, s3, s4, s5, s6, s7, s8⟩ := hS; go_simp; try with_reducible rfl) ?_)
            try simp only [Act.put, List.getElem_toArray, List.getElem_cons_succ, List.getElem_cons_zero, List.setIfInBounds_toArray, List.set_cons_zero, List.set_cons_succ]
            first | (refine Wk.skip (m := 24) (k := 6) rfl (by rfl) ?_) | (refine Wk.step (m := 24) (k := 6) (v := _) rfl (by rfl) (fun wv hS => by obtain ⟨s0, s1, s2, s3, s4, s5, s6, s7, s8⟩ := hS; go_simp; try with_reducible rfl) ?_)
            try simp only [Act.put, List.getElem_toArray, List.getElem_cons_succ, List.getElem_cons_zero, List.setIfInBounds_toArray, List.set_cons_zero, List.set_cons_succ]
            refine Wk.skip (m := 23) (k := 7) rfl (by rfl) ?_
            try simp only [Act.put, List.getElem_toArray, List.getElem_cons_succ, List.getElem_cons_zero, List.setIfInBounds_toArray, List.set_cons_zero, List.set_cons_succ]
            first | (refine Wk.skip (m := 22) (k := 8) rfl (by rfl) ?_) | (refine Wk.step (m := 22) (k := 8) (v := _) rfl (by rfl) (fun wv hS => by obtain ⟨s0, s1, s2, s3, s4, s5, s6, s7, s8⟩ := hS; go_simp; try with_reducible rfl) ?_)
            try simp only [Act.put, List.getElem_toArray, List.getElem_cons_succ, List.getElem_cons_zero, List.setIfInBounds_toArray, List.set_cons_zero, List.set_cons_succ]
            first | (refine Wk.skip (m := 21) (k := 9) rfl (by rfl) ?_) | (refine Wk.step (m := 21) (k := 9) (v := _) rfl (by rfl) (fun wv hS => by obtain ⟨s0, s1, s2, s3, s4, s5, s6, s7, s8⟩ := hS; go_simp; try with_reducible rfl) ?_)
            try simp only [Act.put, List.getElem_toArray, List.getElem_cons_succ, List.getElem_cons_zero, List.setIfInBounds_toArray, List.set_cons_zero, List.set_cons_succ]
            first | (refine Wk.skip (m := 20) (k := 10) rfl (by rfl) ?_) | (refine Wk.step (m := 20) (k := 10) (v := _) rfl (by rfl) (fun wv hS => by obtain ⟨s0, s1, s2, s3, s4, s5, s6, s7, s8⟩ := hS; go_simp; try with_reducible rfl) ?_)
            try simp only [Act.put, List.getElem_toArray, List.getElem_cons_succ, List.getElem_cons_zero, List.setIfInBounds_toArray, List.set_cons_zero, List.set_cons_succ]
            first | (refine Wk.skip (m := 19) (k := 11) rfl (by rfl) ?_) | (refine Wk.step (m := 19) (k := 11) (v := _) rfl (by rfl) (fun wv hS => by obtain ⟨s0, s1, s2, s3, s4, s5, s6, s7, s8⟩ := hS; go_simp; try with_reducible rfl) ?_)
            try simp only [Act.put, List.getElem_toArray, List.getElem_cons_succ, List.getElem_cons_zero, List.setIfInBounds_toArray, List.set_cons_zero, List.set_cons_succ]
            first | (refine Wk.skip (m := 18) (k := 12) rfl (by rfl) ?_) | (refine Wk.step (m := 18) (k := 12) (v := _) rfl (by rfl) (fun wv hS => by obtain ⟨s0, s1, s2, s3, s4, s5, s6, s7, s8⟩ := hS; go_simp; try with_reducible rfl) ?_)
            try simp only [Act.put, List.getElem_toArray, List.getElem_cons_succ, List.getElem_cons_zero, List.setIfInBounds_toArray, List.set_cons_zero, List.set_cons_succ]
            first | (refine Wk.skip (m := 17) (k := 13) rfl (by rfl) ?_) | (refine Wk.step (m := 17) (k := 13) (v := _) rfl (by rfl) (fun wv hS => by obtain ⟨s0, s1, s2, s3, s4, s5, s6, s7, s8⟩ := hS; go_simp; try with_reducible rfl) ?_)
            try simp only [Act.put, List.getElem_toArray, List.getElem_cons_succ, List.getElem_cons_zero, List.setIfInBounds_toArray, List.set_cons_zero, List.set_cons_succ]
            first | (refine Wk.skip (m := 16) (k := 14) rfl (by rfl) ?_) | (refine Wk.step (m := 16) (k := 14) (v := _) rfl (by rfl) (fun wv hS => by obtain ⟨s0, s1, s2, s3, s4, s5, s6, s7, s8⟩ := hS; go_simp; try with_reducible rfl) ?_)
            try simp only [Act.put, List.getElem_toArray, List.getElem_cons_succ, List.getElem_cons_zero, List.setIfInBounds_toArray, List.set_cons_zero, List.set_cons_succ]
            first | (refine Wk.skip (m := 15) (k := 15) rfl (by rfl) ?_) | (refine Wk.step (m := 15) (k := 15) (v := _) rfl (by rfl) (fun wv hS => by obtain ⟨s0, s1, s2, s3, s4, s5, s6, s7, s8⟩ := hS; go_simp; try with_reducible rfl) ?_)
            try simp only [Act.put, List.getElem_toArray, List.getElem_cons_succ, List.getElem_cons_zero, List.setIfInBounds_toArray, List.set_cons_zero, List.set_cons_succ]
            refine Wk.skip (m := 14) (k := 16) rfl (by rfl) ?_
            try simp only [Act.put, List.getElem_toArray, List.getElem_cons_succ, List.getElem_cons_zero, List.setIfInBounds_toArray, List.set_cons_zero, List.set_cons_succ]
            first | (refine Wk.skip (m := 13) (k := 17) rfl (by rfl) ?_) | (refine Wk.step (m := 13) (k := 17) (v := _) rfl (by rfl) (fun wv hS => by obtain ⟨s0, s1, s2, s3, s4, s5, s6, s7, s8⟩ := hS; go_simp; try with_reducible rfl) ?_)
            try simp only [Act.put, List.getElem_toArray, List.getElem_cons_succ, List.getElem_cons_zero, List.setIfInBounds_toArray, List.set_cons_zero, List.set_cons_succ]
            first | (refine Wk.skip (m := 12) (k := 18) rfl (by rfl) ?_) | (refine Wk.step (m := 12) (k := 18) (v := _) rfl (by rfl) (fun wv hS => by obtain ⟨s0, s1, s2, s3, s4, s5, s6, s7, s8⟩ := hS; go_simp; try with_reducible rfl) ?_)
            try simp only [Act.put, List.getElem_toArray, List.getElem_cons_succ, List.getElem_cons_zero, List.setIfInBounds_toArray, List.set_cons_zero, List.set_cons_succ]
            first | (refine Wk.skip (m := 11) (k := 19) rfl (by rfl) ?_) | (refine Wk.step (m := 11) (k := 19) (v := _) rfl (by rfl) (fun wv hS => by obtain ⟨s0, s1, s2, s3, s4, s5, s6, s7, s8⟩ := hS; go_simp; try with_reducible rfl) ?_)
            try simp only [Act.put, List.getElem_toArray, List.getElem_cons_succ, List.getElem_cons_zero, List.setIfInBounds_toArray, List.set_cons_zero, List.set_cons_succ]
            first | (refine Wk.skip (m := 10) (k := 20) rfl (by rfl) ?_) | (refine Wk.step (m := 10) (k := 20) (v := _) rfl (by rfl) (fun wv hS => by obtain ⟨s0, s1, s2, s3, s4, s5, s6, s7, s8⟩ := hS; go_simp; try with_reducible rfl) ?_)
            try simp only [Act.put, List.getElem_toArray, List.getElem_cons_succ, List.getElem_cons_zero, List.setIfInBounds_toArray, List.set_cons_zero, List.set_cons_succ]
            first | (refine Wk.skip (m := 9) (k := 21) rfl (by rfl) ?_) | (refine Wk.step (m := 9) (k := 21) (v := _) rfl (by rfl) (fun wv hS => by obtain ⟨s0, s1, s2, s3, s4, s5, s6, s7, s8⟩ := hS; go_simp; try with_reducible rfl) ?_)
            try simp only [Act.put, List.getElem_toArray, List.getElem_cons_succ, List.getElem_cons_zero, List.setIfInBounds_toArray, List.set_cons_zero, List.set_cons_succ]
            first | (refine Wk.skip (m := 8) (k := 22) rfl (by rfl) ?_) | (refine Wk.step (m := 8) (k := 22) (v := _) rfl (by rfl) (fun wv hS => by obtain ⟨s0, s1, s2, s3, s4, s5, s6, s7, s8⟩ := hS; go_simp; try with_reducible rfl) ?_)
            try simp only [Act.put, List.getElem_toArray, List.getElem_cons_succ, List.getElem_cons_zero, List.setIfInBounds_toArray, List.set_cons_zero, List.set_cons_succ]
            first | (refine Wk.skip (m := 7) (k := 23) rfl (by rfl) ?_) | (refine Wk.step (m := 7) (k := 23) (v := _) rfl (by rfl) (fun wv hS => by obtain ⟨s0, s1, s2, s3, s4, s5, s6, s7, s8⟩ := hS; go_simp; try with_reducible rfl) ?_)
            try simp only [Act.put, List.getElem_toArray, List.getElem_cons_succ, List.getElem_cons_zero, List.setIfInBounds_toArray, List.set_cons_zero, List.set_cons_succ]
            first | (refine Wk.skip (m := 6) (k := 24) rfl (by rfl) ?_) | (refine Wk.step (m := 6) (k := 24) (v := _) rfl (by rfl) (fun wv hS => by obtain ⟨s0, s1, s2, s3, s4, s5, s6, s7, s8⟩ := hS; go_simp; try with_reducible rfl) ?_)
            try simp only [Act.put, List.getElem_toArray, List.getElem_cons_succ, List.getElem_cons_zero, List.setIfInBounds_toArray, List.set_cons_zero, List.set_cons_succ]
            first | (refine Wk.skip (m := 5) (k := 25) rfl (by rfl) ?_) | (refine Wk.step (m := 5) (k := 25) (v := _) rfl (by rfl) (fun wv hS => by obtain ⟨s0, s1, s2, s3, s4, s5, s6, s7, s8⟩ := hS; go_simp; try with_reducible rfl) ?_)
            try simp only [Act.put, List.getElem_toArray, List.getElem_cons_succ, List.getElem_cons_zero, List.setIfInBounds_toArray, List.set_cons_zero, List.set_cons_succ]
            first | (refine Wk.skip (m := 4) (k := 26) rfl (by rfl) ?_) | (refine Wk.step (m := 4) (k := 26) (v := _) rfl (by rfl) (fun wv hS => by obtain ⟨s0, s1, s2, s3, s4, s5, s6, s7, s8⟩ := hS; go_simp; try with_reducible rfl) ?_)
            try simp only [Act.put, List.getElem_toArray, List.getElem_cons_succ, List.getElem_cons_zero, List.setIfInBounds_toArray, List.set_cons_zero, List.set_cons_succ]
            first | (refine Wk.skip (m := 3) (k := 27) rfl (by rfl) ?_) | (refine Wk.step (m := 3) (k := 27) (v := _) rfl (by rfl) (fun wv hS => by obtain ⟨s0, s1, s2, s3, s4, s5, s6, s7, s8⟩ := hS; go_simp; try with_reducible rfl) ?_)
            try simp only [Act.put, List.getElem_toArray, List.getElem_cons_succ, List.getElem_cons_zero, List.setIfInBounds_toArray, List.set_cons_zero, List.set_cons_succ]
            first | (refine Wk.skip (m := 2) (k := 28) rfl (by rfl) ?_) | (refine Wk.step (m := 2) (k := 28) (v := _) rfl (by rfl) (fun wv hS => by obtain ⟨s0, s1, s2, s3, s4, s5, s6, s7, s8⟩ := hS; go_simp; try with_reducible rfl) ?_)
            try simp only [Act.put, List.getElem_toArray, List.getElem_cons_succ, List.getElem_cons_zero, List.setIfInBounds_toArray, List.set_cons_zero, List.set_cons_succ]
            first | (refine Wk.skip (m := 1) (k := 29) rfl (by rfl) ?_) | (refine Wk.step (m := 1) (k := 29) (v := _) rfl (by rfl) (fun wv hS => by obtain ⟨s0, s1, s2, s3, s4, s5, s6, s7, s8⟩ := hS; go_simp; try with_reducible rfl) ?_)
            try simp only [Act.put, List.getElem_toArray, List.getElem_cons_succ, List.getElem_cons_zero, List.setIfInBounds_toArray, List.set_cons_zero, List.set_cons_succ]
            first | (refine Wk.skip (m := 0) (k := 30) rfl (by rfl) ?_) | (refine Wk.step (m := 0) (k := 30) (v := _) rfl (by rfl) (fun wv hS => by obtain ⟨s0, s1, s2, s3, s4, s5, s6, s7, s8⟩ := hS; go_simp; try with_reducible rfl) ?_)
            try simp only [Act.put, List.getElem_toArray, List.getElem_cons_succ, List.getElem_cons_zero, List.setIfInBounds_toArray, List.set_cons_zero, List.set_cons_succ]
            refine Wk.done fun wE hE => ?_
            obtain ⟨mE, k0, k1, j2, q0, q1, q2, q3, q4⟩ := hE
            go_wp2_with fail
            go_ret
            exact ⟨retB (by rw [HR.out, ← wf_same n0 zl n1 zs n, HE.out]), MR.trans mE⟩
          · have hnd := hA
            simp only [hopOk, decide_eq_true_eq] at hnd
            replace hnd := hnd.1
            have HA := Lib.hid hA
            cases hB2 : isAsB n0 x.nd
            · have HE := Lib.hid (allN_stop (p := wfS n0 zl n1 zs n) (n := n) (show (wfS n0 zl n1 zs n) k = false by unfold wfS; rw [← hx.out]; rw [hA, hB2]; rfl) hlt)
              have HBq := Lib.hid hB2
              clear hB2 hA
              go_wp2_with fail
              refine wp_region_wk (fun w' => Mk0 (wr.alloc (Obj.cells #[Value.int .i64 x.nd, Value.int .i64 x.ing, Value.int .i64 x.eg, Value.int .i64 x.exp, Value.int .i64 x.mac] 61)) w' ∧ w'.cell? ⟨w.heap.size, 0, none⟩ = some (.slice a0 n0 c0) ∧ w'.cell? ⟨w.heap.size, 1, none⟩ = some (.slice a1 n1 c1) ∧ w'.cell? ⟨w.heap.size + 1, 2, none⟩ = some (.slice (some ⟨b, off, none⟩) n c) ∧ w'.cell? ⟨wr.heap.size, 0, none⟩ = some (.int .i64 x.nd) ∧ w'.cell? ⟨wr.heap.size, 1, none⟩ = some (.int .i64 x.ing) ∧ w'.cell? ⟨wr.heap.size, 2, none⟩ = some (.int .i64 x.eg) ∧ w'.cell? ⟨wr.heap.size, 3, none⟩ = some (.int .i64 x.exp) ∧ w'.cell? ⟨wr.heap.size, 4, none⟩ = some (.int .i64 x.mac)) (by kernel_rfl) (by kernel_rfl) (⟨Mk.drew1 _, k0, k1, j2, q0, q1, q2, q3, q4⟩) ?_
              change Wk _ _ _ _ 31 0 _
              first | (refine Wk.skip (m := 30) (k := 0) rfl (by rfl) ?_) | (refine Wk.step (m := 30) (k := 0) (v := _) rfl (by rfl) (fun wv hS => by obtain ⟨s0, s1, s2, s3, s4, s5, s6, s7, s8⟩ := hS; go_simp; try with_reducible rfl) ?_)
              try simp only [Act.put, List.getElem_toArray, List.getElem_cons_zero, List.setIfInBounds_toArray, List.set_cons_zero, List.set_cons_succ]
              refine Wk.call (m := 29) (k := 1) (v := .bool true) _ _ rfl (by rfl) (fun wv hS => by obtain ⟨s0, s1, s2, s3, s4, s5, s6, s7, s8⟩ := hS; go_simp; first | done | exact ⟨rfl, rfl⟩ | with_reducible rfl) (fun wv hS => ?_) ?_; · obtain ⟨s0, s1, s2, s3, s4, s5, s6, s7, s8⟩ := hS; refine (specVHop x.nd x.ing x.eg x.exp x.mac wv).mono ?_; rintro e w' ⟨he, mm⟩; exact ⟨by rw [he, HA.out], s0.trans mm, mm.cellAt s1, mm.cellAt s2, mm.cellAt s3, mm.cellAt s4, mm.cellAt s5, mm.cellAt s6, mm.cellAt s7, mm.cellAt s8⟩
              try simp only [Act.put, List.getElem_toArray, List.getElem_cons_succ, List.getElem_cons_zero, List.setIfInBounds_toArray, List.set_cons_zero, List.set_cons_succ]
              first | (refine Wk.skip (m := 28) (k := 2) rfl (by rfl) ?_) | (refine Wk.step (m := 28) (k := 2) (v := _) rfl (by rfl) (fun wv hS => by obtain ⟨s0, s1, s2, s3, s4, s5, s6, s7, s8⟩ := hS; go_simp; try with_reducible rfl) ?_)
              try simp only [Act.put, List.getElem_toArray, List.getElem_cons_succ, List.getElem_cons_zero, List.setIfInBounds_toArray, List.set_cons_zero, List.set_cons_succ]
              first | (refine Wk.skip (m := 27) (k := 3) rfl (by rfl) ?_) | (refine Wk.step (m := 27) (k := 3) (v := _) rfl (by rfl) (fun wv hS => by obtain ⟨s0, s1, s2, s3, s4, s5, s6, s7, s8⟩ := hS; go_simp; try with_reducible rfl) ?_)
              try simp only [Act.put, List.getElem_toArray, List.getElem_cons_succ, List.getElem_cons_zero, List.setIfInBounds_toArray, List.set_cons_zero, List.set_cons_succ]
              first | (refine Wk.skip (m := 26) (k := 4) rfl (by rfl) ?_) | (refine Wk.step (m := 26) (k := 4) (v := _) rfl (by rfl) (fun wv hS => by obtain ⟨s0, s1, s2, s3, s4, s5, s6, s7, s8⟩ := hS; go_simp; try with_reducible rfl) ?_)
              try simp only [Act.put, List.getElem_toArray, List.getElem_cons_succ, List.getElem_cons_zero, List.setIfInBounds_toArray, List.set_cons_zero, List.set_cons_succ]
              first | (refine Wk.skip (m := 25) (k := 5) rfl (by rfl) ?_) | (refine Wk.step (m := 25) (k := 5) (v := _) rfl (by rfl) (fun wv hS => by obtain ⟨s0, s1, s2, s3, s4, s5, s6, s7, s8⟩ := hS; go_simp; try with_reducible rfl) ?_)
              try simp only [Act.put, List.getElem_toArray, List.getElem_cons_succ, List.getElem_cons_zero, List.setIfInBounds_toArray, List.set_cons_zero, List.set_cons_succ]
              first | (refine Wk.skip (m := 24) (k := 6) rfl (by rfl) ?_) | (refine Wk.step (m := 24) (k := 6) (v := _) rfl (by rfl) (fun wv hS => by obtain ⟨s0, s1, s2, s3, s4, s5, s6, s7, s8⟩ := hS; go_simp; try with_reducible rfl) ?_)
              try simp only [Act.put, List.getElem_toArray, List.getElem_cons_succ, List.getElem_cons_zero, List.setIfInBounds_toArray, List.set_cons_zero, List.set_cons_succ]
              refine Wk.call (m := 23) (k := 7) (v := .bool false) _ _ rfl (by rfl) (fun wv hS => by obtain ⟨s0, s1, s2, s3, s4, s5, s6, s7, s8⟩ := hS; go_simp; first | done | exact ⟨rfl, rfl⟩ | with_reducible rfl) (fun wv hS => ?_) ?_; · obtain ⟨s0, s1, s2, s3, s4, s5, s6, s7, s8⟩ := hS; refine (specIsAS a0 a1 n0 c0 n1 c1 x.nd wv hn0).mono ?_; rintro e w' ⟨he, mm⟩; exact ⟨by rw [he, HBq.out], s0.trans mm, mm.cellAt s1, mm.cellAt s2, mm.cellAt s3, mm.cellAt s4, mm.cellAt s5, mm.cellAt s6, mm.cellAt s7, mm.cellAt s8⟩
              try simp only [Act.put, List.getElem_toArray, List.getElem_cons_succ, List.getElem_cons_zero, List.setIfInBounds_toArray, List.set_cons_zero, List.set_cons_succ]
              first | (refine Wk.skip (m := 22) (k := 8) rfl (by rfl) ?_) | (refine Wk.step (m := 22) (k := 8) (v := _) rfl (by rfl) (fun wv hS => by obtain ⟨s0, s1, s2, s3, s4, s5, s6, s7, s8⟩ := hS; go_simp; try with_reducible rfl) ?_)
              try simp only [Act.put, List.getElem_toArray, List.getElem_cons_succ, List.getElem_cons_zero, List.setIfInBounds_toArray, List.set_cons_zero, List.set_cons_succ]
              first | (refine Wk.skip (m := 21) (k := 9) rfl (by rfl) ?_) | (refine Wk.step (m := 21) (k := 9) (v := _) rfl (by rfl) (fun wv hS => by obtain ⟨s0, s1, s2, s3, s4, s5, s6, s7, s8⟩ := hS; go_simp; try with_reducible rfl) ?_)
              try simp only [Act.put, List.getElem_toArray, List.getElem_cons_succ, List.getElem_cons_zero, List.setIfInBounds_toArray, List.set_cons_zero, List.set_cons_succ]
              first | (refine Wk.skip (m := 20) (k := 10) rfl (by rfl) ?_) | (refine Wk.step (m := 20) (k := 10) (v := _) rfl (by rfl) (fun wv hS => by obtain ⟨s0, s1, s2, s3, s4, s5, s6, s7, s8⟩ := hS; go_simp; try with_reducible rfl) ?_)
              try simp only [Act.put, List.getElem_toArray, List.getElem_cons_succ, List.getElem_cons_zero, List.setIfInBounds_toArray, List.set_cons_zero, List.set_cons_succ]
              first | (refine Wk.skip (m := 19) (k := 11) rfl (by rfl) ?_) | (refine Wk.step (m := 19) (k := 11) (v := _) rfl (by rfl) (fun wv hS => by obtain ⟨s0, s1, s2, s3, s4, s5, s6, s7, s8⟩ := hS; go_simp; try with_reducible rfl) ?_)
              try simp only [Act.put, List.getElem_toArray, List.getElem_cons_succ, List.getElem_cons_zero, List.setIfInBounds_toArray, List.set_cons_zero, List.set_cons_succ]
              first | (refine Wk.skip (m := 18) (k := 12) rfl (by rfl) ?_) | (refine Wk.step (m := 18) (k := 12) (v := _) rfl (by rfl) (fun wv hS => by obtain ⟨s0, s1, s2, s3, s4, s5, s6, s7, s8⟩ := hS; go_simp; try with_reducible rfl) ?_)
              try simp only [Act.put, List.getElem_toArray, List.getElem_cons_succ, List.getElem_cons_zero, List.setIfInBounds_toArray, List.set_cons_zero, List.set_cons_succ]
              first | (refine Wk.skip (m := 17) (k := 13) rfl (by rfl) ?_) | (refine Wk.step (m := 17) (k := 13) (v := _) rfl (by rfl) (fun wv hS => by obtain ⟨s0, s1, s2, s3, s4, s5, s6, s7, s8⟩ := hS; go_simp; try with_reducible rfl) ?_)
              try simp only [Act.put, List.getElem_toArray, List.getElem_cons_succ, List.getElem_cons_zero, List.setIfInBounds_toArray, List.set_cons_zero, List.set_cons_succ]
              first | (refine Wk.skip (m := 16) (k := 14) rfl (by rfl) ?_) | (refine Wk.step (m := 16) (k := 14) (v := _) rfl (by rfl) (fun wv hS => by obtain ⟨s0, s1, s2, s3, s4, s5, s6, s7, s8⟩ := hS; go_simp; try with_reducible rfl) ?_)
              try simp only [Act.put, List.getElem_toArray, List.getElem_cons_succ, List.getElem_cons_zero, List.setIfInBounds_toArray, List.set_cons_zero, List.set_cons_succ]
              first | (refine Wk.skip (m := 15) (k := 15) rfl (by rfl) ?_) | (refine Wk.step (m := 15) (k := 15) (v := _) rfl (by rfl) (fun wv hS => by obtain ⟨s0, s1, s2, s3, s4, s5, s6, s7, s8⟩ := hS; go_simp; try with_reducible rfl) ?_)
              try simp only [Act.put, List.getElem_toArray, List.getElem_cons_succ, List.getElem_cons_zero, List.setIfInBounds_toArray, List.set_cons_zero, List.set_cons_succ]
              refine Wk.skip (m := 14) (k := 16) rfl (by rfl) ?_
              try simp only [Act.put, List.getElem_toArray, List.getElem_cons_succ, List.getElem_cons_zero, List.setIfInBounds_toArray, List.set_cons_zero, List.set_cons_succ]
              first | (refine Wk.skip (m := 13) (k := 17) rfl (by rfl) ?_) | (refine Wk.step (m := 13) (k := 17) (v := _) rfl (by rfl) (fun wv hS => by obtain ⟨s0, s1, s2, s3, s4, s5, s6, s7, s8⟩ := hS; go_simp; try with_reducible rfl) ?_)
              try simp only [Act.put, List.getElem_toArray, List.getElem_cons_succ, List.getElem_cons_zero, List.setIfInBounds_toArray, List.set_cons_zero, List.set_cons_succ]
              first | (refine Wk.skip (m := 12) (k := 18) rfl (by rfl) ?_) | (refine Wk.step (m := 12) (k := 18) (v := _) rfl (by rfl) (fun wv hS => by obtain ⟨s0, s1, s2, s3, s4, s5, s6, s7, s8⟩ := hS; go_simp; try with_reducible rfl) ?_)
              try simp only [Act.put, List.getElem_toArray, List.getElem_cons_succ, List.getElem_cons_zero, List.setIfInBounds_toArray, List.set_cons_zero, List.set_cons_succ]
              first | (refine Wk.skip (m := 11) (k := 19) rfl (by rfl) ?_) | (refine Wk.step (m := 11) (k := 19) (v := _) rfl (by rfl) (fun wv hS => by obtain ⟨s0, s1, s2, s3, s4, s5, s6, s7, s8⟩ := hS; go_simp; try with_reducible rfl) ?_)
              try simp only [Act.put, List.getElem_toArray, List.getElem_cons_succ, List.getElem_cons_zero, List.setIfInBounds_toArray, List.set_cons_zero, List.set_cons_succ]
              first | (refine Wk.skip (m := 10) (k := 20) rfl (by rfl) ?_) | (refine Wk.step (m := 10) (k := 20) (v := _) rfl (by rfl) (fun wv hS => by obtain ⟨s0, s1, s2, s3, s4, s5, s6, s7, s8⟩ := hS; go_simp; try with_reducible rfl) ?_)
              try simp only [Act.put, List.getElem_toArray, List.getElem_cons_succ, List.getElem_cons_zero, List.setIfInBounds_toArray, List.set_cons_zero, List.set_cons_succ]
              first | (refine Wk.skip (m := 9) (k := 21) rfl (by rfl) ?_) | (refine Wk.step (m := 9) (k := 21) (v := _) rfl (by rfl) (fun wv hS => by obtain ⟨s0, s1, s2, s3, s4, s5, s6, s7, s8⟩ := hS; go_simp; try with_reducible rfl) ?_)
              try simp only [Act.put, List.getElem_toArray, List.getElem_cons_succ, List.getElem_cons_zero, List.setIfInBounds_toArray, List.set_cons_zero, List.set_cons_succ]
              first | (refine Wk.skip (m := 8) (k := 22) rfl (by rfl) ?_) | (refine Wk.step (m := 8) (k := 22) (v := _) rfl (by rfl) (fun wv hS => by obtain ⟨s0, s1, s2, s3, s4, s5, s6, s7, s8⟩ := hS; go_simp; try with_reducible rfl) ?_)
              try simp only [Act.put, List.getElem_toArray, List.getElem_cons_succ, List.getElem_cons_zero, List.setIfInBounds_toArray, List.set_cons_zero, List.set_cons_succ]
              first | (refine Wk.skip (m := 7) (k := 23) rfl (by rfl) ?_) | (refine Wk.step (m := 7) (k := 23) (v := _) rfl (by rfl) (fun wv hS => by obtain ⟨s0, s1, s2, s3, s4, s5, s6, s7, s8⟩ := hS; go_simp; try with_reducible rfl) ?_)
              try simp only [Act.put, List.getElem_toArray, List.getElem_cons_succ, List.getElem_cons_zero, List.setIfInBounds_toArray, List.set_cons_zero, List.set_cons_succ]
              first | (refine Wk.skip (m := 6) (k := 24) rfl (by rfl) ?_) | (refine Wk.step (m := 6) (k := 24) (v := _) rfl (by rfl) (fun wv hS => by obtain ⟨s0, s1, s2, s3, s4, s5, s6, s7, s8⟩ := hS; go_simp; try with_reducible rfl) ?_)
              try simp only [Act.put, List.getElem_toArray, List.getElem_cons_succ, List.getElem_cons_zero, List.setIfInBounds_toArray, List.set_cons_zero, List.set_cons_succ]
              first | (refine Wk.skip (m := 5) (k := 25) rfl (by rfl) ?_) | (refine Wk.step (m := 5) (k := 25) (v := _) rfl (by rfl) (fun wv hS => by obtain ⟨s0, s1, s2, s3, s4, s5, s6, s7, s8⟩ := hS; go_simp; try with_reducible rfl) ?_)
              try simp only [Act.put, List.getElem_toArray, List.getElem_cons_succ, List.getElem_cons_zero, List.setIfInBounds_toArray, List.set_cons_zero, List.set_cons_succ]
              first | (refine Wk.skip (m := 4) (k := 26) rfl (by rfl) ?_) | (refine Wk.step (m := 4) (k := 26) (v := _) rfl (by rfl) (fun wv hS => by obtain ⟨s0, s1, s2, s3, s4, s5, s6, s7, s8⟩ := hS; go_simp; try with_reducible rfl) ?_)
              try simp only [Act.put, List.getElem_toArray, List.getElem_cons_succ, List.getElem_cons_zero, List.setIfInBounds_toArray, List.set_cons_zero, List.set_cons_succ]
              first | (refine Wk.skip (m := 3) (k := 27) rfl (by rfl) ?_) | (refine Wk.step (m := 3) (k := 27) (v := _) rfl (by rfl) (fun wv hS => by obtain ⟨s0, s1, s2, s3, s4, s5, s6, s7, s8⟩ := hS; go_simp; try with_reducible rfl) ?_)
              try simp only [Act.put, List.getElem_toArray, List.getElem_cons_succ, List.getElem_cons_zero, List.setIfInBounds_toArray, List.set_cons_zero, List.set_cons_succ]
              first | (refine Wk.skip (m := 2) (k := 28) rfl (by rfl) ?_) | (refine Wk.step (m := 2) (k := 28) (v := _) rfl (by rfl) (fun wv hS => by obtain ⟨s0, s1, s2, s3, s4, s5, s6, s7, s8⟩ := hS; go_simp; try with_reducible rfl) ?_)
              try simp only [Act.put, List.getElem_toArray, List.getElem_cons_succ, List.getElem_cons_zero, List.setIfInBounds_toArray, List.set_cons_zero, List.set_cons_succ]
              first | (refine Wk.skip (m := 1) (k := 29) rfl (by rfl) ?_) | (refine Wk.step (m := 1) (k := 29) (v := _) rfl (by rfl) (fun wv hS => by obtain ⟨s0, s1, s2, s3, s4, s5, s6, s7, s8⟩ := hS; go_simp; try with_reducible rfl) ?_)
              try simp only [Act.put, List.getElem_toArray, List.getElem_cons_succ, List.getElem_cons_zero, List.setIfInBounds_toArray, List.set_cons_zero, List.set_cons_succ]
              first | (refine Wk.skip (m := 0) (k := 30) rfl (by rfl) ?_) | (refine Wk.step (m := 0) (k := 30) (v := _) rfl (by rfl) (fun wv hS => by obtain ⟨s0, s1, s2, s3, s4, s5, s6, s7, s8⟩ := hS; go_simp; try with_reducible rfl) ?_)
              try simp only [Act.put, List.getElem_toArray, List.getElem_cons_succ, List.getElem_cons_zero, List.setIfInBounds_toArray, List.set_cons_zero, List.set_cons_succ]
              refine Wk.done fun wE hE => ?_
              obtain ⟨mE, k0, k1, j2, q0, q1, q2, q3, q4⟩ := hE
              go_wp2_with fail
              go_ret
              exact ⟨retB (by rw [HR.out, ← wf_same n0 zl n1 zs n, HE.out]), MR.trans mE⟩
            · have HBq := Lib.hid hB2
              cases hC : inUp (ndAt zs) x.nd k
              · cases hD : (x.eg == 0)
                · have HC := Lib.hid (show inUp (fun j => (colN THop.nd zs k).getD j 0) x.nd k = false by rw [hcong, hC])
                  go_wp2_with fail
                  refine wp_region_wk (fun w' => Mk0 (wr.alloc (Obj.cells #[Value.int .i64 x.nd, Value.int .i64 x.ing, Value.int .i64 x.eg, Value.int .i64 x.exp, Value.int .i64 x.mac] 61)) w' ∧ w'.cell? ⟨w.heap.size, 0, none⟩ = some (.slice a0 n0 c0) ∧ w'.cell? ⟨w.heap.size, 1, none⟩ = some (.slice a1 n1 c1) ∧ w'.cell? ⟨w.heap.size + 1, 2, none⟩ = some (.slice (some ⟨b, off, none⟩) n c) ∧ w'.cell? ⟨wr.heap.size, 0, none⟩ = some (.int .i64 x.nd) ∧ w'.cell? ⟨wr.heap.size, 1, none⟩ = some (.int .i64 x.ing) ∧ w'.cell? ⟨wr.heap.size, 2, none⟩ = some (.int .i64 x.eg) ∧ w'.cell? ⟨wr.heap.size, 3, none⟩ = some (.int .i64 x.exp) ∧ w'.cell? ⟨wr.heap.size, 4, none⟩ = some (.int .i64 x.mac)) (by kernel_rfl) (by kernel_rfl) (⟨Mk.drew1 _, k0, k1, j2, q0, q1, q2, q3, q4⟩) ?_
                  change Wk _ _ _ _ 31 0 _
                  first | (refine Wk.skip (m := 30) (k := 0) rfl (by rfl) ?_) | (refine Wk.step (m := 30) (k := 0) (v := _) rfl (by rfl) (fun wv hS => by obtain ⟨s0, s1, s2, s3, s4, s5, s6, s7, s8⟩ := hS; go_simp; try with_reducible rfl) ?_)
                  try simp only [Act.put, List.getElem_toArray, List.getElem_cons_zero, List.setIfInBounds_toArray, List.set_cons_zero, List.set_cons_succ]
                  refine Wk.call (m := 29) (k := 1) (v := .bool true) _ _ rfl (by rfl) (fun wv hS => by obtain ⟨s0, s1, s2, s3, s4, s5, s6, s7, s8⟩ := hS; go_simp; first | done | exact ⟨rfl, rfl⟩ | with_reducible rfl) (fun wv hS => ?_) ?_; · obtain ⟨s0, s1, s2, s3, s4, s5, s6, s7, s8⟩ := hS; refine (specVHop x.nd x.ing x.eg x.exp x.mac wv).mono ?_; rintro e w' ⟨he, mm⟩; exact ⟨by rw [he, HA.out], s0.trans mm, mm.cellAt s1, mm.cellAt s2, mm.cellAt s3, mm.cellAt s4, mm.cellAt s5, mm.cellAt s6, mm.cellAt s7, mm.cellAt s8⟩
                  try simp only [Act.put, List.getElem_toArray, List.getElem_cons_succ, List.getElem_cons_zero, List.setIfInBounds_toArray, List.set_cons_zero, List.set_cons_succ]
                  first | (refine Wk.skip (m := 28) (k := 2) rfl (by rfl) ?_) | (refine Wk.step (m := 28) (k := 2) (v := _) rfl (by rfl) (fun wv hS => by obtain ⟨s0, s1, s2, s3, s4, s5, s6, s7, s8⟩ := hS; go_simp; try with_reducible rfl) ?_)
                  try simp only [Act.put, List.getElem_toArray, List.getElem_cons_succ, List.getElem_cons_zero, List.setIfInBounds_toArray, List.set_cons_zero, List.set_cons_succ]
                  first | (refine Wk.skip (m := 27) (k := 3) rfl (by rfl) ?_) | (refine Wk.step (m := 27) (k := 3) (v := _) rfl (by rfl) (fun wv hS => by obtain ⟨s0, s1, s2, s3, s4, s5, s6, s7, s8⟩ := hS; go_simp; try with_reducible rfl) ?_)
                  try simp only [Act.put, List.getElem_toArray, List.getElem_cons_succ, List.getElem_cons_zero, List.setIfInBounds_toArray, List.set_cons_zero, List.set_cons_succ]
                  first | (refine Wk.skip (m := 26) (k := 4) rfl (by rfl) ?_) | (refine Wk.step (m := 26) (k := 4) (v := _) rfl (by rfl) (fun wv hS => by obtain ⟨s0, s1, s2, s3, s4, s5, s6, s7, s8⟩ := hS; go_simp; try with_reducible rfl) ?_)
                  try simp only [Act.put, List.getElem_toArray, List.getElem_cons_succ, List.getElem_cons_zero, List.setIfInBounds_toArray, List.set_cons_zero, List.set_cons_succ]
                  first | (refine Wk.skip (m := 25) (k := 5) rfl (by rfl) ?_) | (refine Wk.step (m := 25) (k := 5) (v := _) rfl (by rfl) (fun wv hS => by obtain ⟨s0, s1, s2, s3, s4, s5, s6, s7, s8⟩ := hS; go_simp; try with_reducible rfl) ?_)
                  try simp only [Act.put, List.getElem_toArray, List.getElem_cons_succ, List.getElem_cons_zero, List.setIfInBounds_toArray, List.set_cons_zero, List.set_cons_succ]
                  first | (refine Wk.skip (m := 24) (k := 6) rfl (by rfl) ?_) | (refine Wk.step (m := 24) (k := 6) (v := _) rfl (by rfl) (fun wv hS => by obtain ⟨s0, s1, s2, s3, s4, s5, s6, s7, s8⟩ := hS; go_simp; try with_reducible rfl) ?_)
                  try simp only [Act.put, List.getElem_toArray, List.getElem_cons_succ, List.getElem_cons_zero, List.setIfInBounds_toArray, List.set_cons_zero, List.set_cons_succ]
                  refine Wk.call (m := 23) (k := 7) (v := .bool true) _ _ rfl (by rfl) (fun wv hS => by obtain ⟨s0, s1, s2, s3, s4, s5, s6, s7, s8⟩ := hS; go_simp; first | done | exact ⟨rfl, rfl⟩ | with_reducible rfl) (fun wv hS => ?_) ?_; · obtain ⟨s0, s1, s2, s3, s4, s5, s6, s7, s8⟩ := hS; refine (specIsAS a0 a1 n0 c0 n1 c1 x.nd wv hn0).mono ?_; rintro e w' ⟨he, mm⟩; exact ⟨by rw [he, HBq.out], s0.trans mm, mm.cellAt s1, mm.cellAt s2, mm.cellAt s3, mm.cellAt s4, mm.cellAt s5, mm.cellAt s6, mm.cellAt s7, mm.cellAt s8⟩
                  try simp only [Act.put, List.getElem_toArray, List.getElem_cons_succ, List.getElem_cons_zero, List.setIfInBounds_toArray, List.set_cons_zero, List.set_cons_succ]
                  first | (refine Wk.skip (m := 22) (k := 8) rfl (by rfl) ?_) | (refine Wk.step (m := 22) (k := 8) (v := _) rfl (by rfl) (fun wv hS => by obtain ⟨s0, s1, s2, s3, s4, s5, s6, s7, s8⟩ := hS; go_simp; try with_reducible rfl) ?_)
                  try simp only [Act.put, List.getElem_toArray, List.getElem_cons_succ, List.getElem_cons_zero, List.setIfInBounds_toArray, List.set_cons_zero, List.set_cons_succ]
                  first | (refine Wk.skip (m := 21) (k := 9) rfl (by rfl) ?_) | (refine Wk.step (m := 21) (k := 9) (v := _) rfl (by rfl) (fun wv hS => by obtain ⟨s0, s1, s2, s3, s4, s5, s6, s7, s8⟩ := hS; go_simp; try with_reducible rfl) ?_)
                  try simp only [Act.put, List.getElem_toArray, List.getElem_cons_succ, List.getElem_cons_zero, List.setIfInBounds_toArray, List.set_cons_zero, List.set_cons_succ]
                  first | (refine Wk.skip (m := 20) (k := 10) rfl (by rfl) ?_) | (refine Wk.step (m := 20) (k := 10) (v := _) rfl (by rfl) (fun wv hS => by obtain ⟨s0, s1, s2, s3, s4, s5, s6, s7, s8⟩ := hS; go_simp; try with_reducible rfl) ?_)
                  try simp only [Act.put, List.getElem_toArray, List.getElem_cons_succ, List.getElem_cons_zero, List.setIfInBounds_toArray, List.set_cons_zero, List.set_cons_succ]
                  first | (refine Wk.skip (m := 19) (k := 11) rfl (by rfl) ?_) | (refine Wk.step (m := 19) (k := 11) (v := _) rfl (by rfl) (fun wv hS => by obtain ⟨s0, s1, s2, s3, s4, s5, s6, s7, s8⟩ := hS; go_simp; try with_reducible rfl) ?_)
                  try simp only [Act.put, List.getElem_toArray, List.getElem_cons_succ, List.getElem_cons_zero, List.setIfInBounds_toArray, List.set_cons_zero, List.set_cons_succ]
                  first | (refine Wk.skip (m := 18) (k := 12) rfl (by rfl) ?_) | (refine Wk.step (m := 18) (k := 12) (v := _) rfl (by rfl) (fun wv hS => by obtain ⟨s0, s1, s2, s3, s4, s5, s6, s7, s8⟩ := hS; go_simp; try with_reducible rfl) ?_)
                  try simp only [Act.put, List.getElem_toArray, List.getElem_cons_succ, List.getElem_cons_zero, List.setIfInBounds_toArray, List.set_cons_zero, List.set_cons_succ]
                  first | (refine Wk.skip (m := 17) (k := 13) rfl (by rfl) ?_) | (refine Wk.step (m := 17) (k := 13) (v := _) rfl (by rfl) (fun wv hS => by obtain ⟨s0, s1, s2, s3, s4, s5, s6, s7, s8⟩ := hS; go_simp; try with_reducible rfl) ?_)
                  try simp only [Act.put, List.getElem_toArray, List.getElem_cons_succ, List.getElem_cons_zero, List.setIfInBounds_toArray, List.set_cons_zero, List.set_cons_succ]
                  first | (refine Wk.skip (m := 16) (k := 14) rfl (by rfl) ?_) | (refine Wk.step (m := 16) (k := 14) (v := _) rfl (by rfl) (fun wv hS => by obtain ⟨s0, s1, s2, s3, s4, s5, s6, s7, s8⟩ := hS; go_simp; try with_reducible rfl) ?_)
                  try simp only [Act.put, List.getElem_toArray, List.getElem_cons_succ, List.getElem_cons_zero, List.setIfInBounds_toArray, List.set_cons_zero, List.set_cons_succ]
                  first | (refine Wk.skip (m := 15) (k := 15) rfl (by rfl) ?_) | (refine Wk.step (m := 15) (k := 15) (v := _) rfl (by rfl) (fun wv hS => by obtain ⟨s0, s1, s2, s3, s4, s5, s6, s7, s8⟩ := hS; go_simp; try with_reducible rfl) ?_)
                  try simp only [Act.put, List.getElem_toArray, List.getElem_cons_succ, List.getElem_cons_zero, List.setIfInBounds_toArray, List.set_cons_zero, List.set_cons_succ]
                  refine Wk.call (m := 14) (k := 16) (v := .bool false) _ _ rfl (by rfl) (fun wv hS => by obtain ⟨s0, s1, s2, s3, s4, s5, s6, s7, s8⟩ := hS; go_simp; first | done | exact ⟨rfl, rfl⟩ | with_reducible rfl) (fun wv hS => ?_) ?_; · obtain ⟨s0, s1, s2, s3, s4, s5, s6, s7, s8⟩ := hS; refine (specHas9 x.nd A k cc w2.heap.size (colN THop.nd zs k) wv (HI.out wv s0) (by omega)).mono ?_; rintro e w' ⟨he, rfl⟩; exact ⟨by rw [he, HC.out], ⟨s0, s1, s2, s3, s4, s5, s6, s7, s8⟩⟩
                  try simp only [Act.put, List.getElem_toArray, List.getElem_cons_succ, List.getElem_cons_zero, List.setIfInBounds_toArray, List.set_cons_zero, List.set_cons_succ]
                  first | (refine Wk.skip (m := 13) (k := 17) rfl (by rfl) ?_) | (refine Wk.step (m := 13) (k := 17) (v := _) rfl (by rfl) (fun wv hS => by obtain ⟨s0, s1, s2, s3, s4, s5, s6, s7, s8⟩ := hS; go_simp; try with_reducible rfl) ?_)
                  try simp only [Act.put, List.getElem_toArray, List.getElem_cons_succ, List.getElem_cons_zero, List.setIfInBounds_toArray, List.set_cons_zero, List.set_cons_succ]
                  first | (refine Wk.skip (m := 12) (k := 18) rfl (by rfl) ?_) | (refine Wk.step (m := 12) (k := 18) (v := _) rfl (by rfl) (fun wv hS => by obtain ⟨s0, s1, s2, s3, s4, s5, s6, s7, s8⟩ := hS; go_simp; try with_reducible rfl) ?_)
                  try simp only [Act.put, List.getElem_toArray, List.getElem_cons_succ, List.getElem_cons_zero, List.setIfInBounds_toArray, List.set_cons_zero, List.set_cons_succ]
                  first | (refine Wk.skip (m := 11) (k := 19) rfl (by rfl) ?_) | (refine Wk.step (m := 11) (k := 19) (v := _) rfl (by rfl) (fun wv hS => by obtain ⟨s0, s1, s2, s3, s4, s5, s6, s7, s8⟩ := hS; go_simp; try with_reducible rfl) ?_)
                  try simp only [Act.put, List.getElem_toArray, List.getElem_cons_succ, List.getElem_cons_zero, List.setIfInBounds_toArray, List.set_cons_zero, List.set_cons_succ]
                  first | (refine Wk.skip (m := 10) (k := 20) rfl (by rfl) ?_) | (refine Wk.step (m := 10) (k := 20) (v := _) rfl (by rfl) (fun wv hS => by obtain ⟨s0, s1, s2, s3, s4, s5, s6, s7, s8⟩ := hS; go_simp; try with_reducible rfl) ?_)
                  try simp only [Act.put, List.getElem_toArray, List.getElem_cons_succ, List.getElem_cons_zero, List.setIfInBounds_toArray, List.set_cons_zero, List.set_cons_succ]
                  first | (refine Wk.skip (m := 9) (k := 21) rfl (by rfl) ?_) | (refine Wk.step (m := 9) (k := 21) (v := _) rfl (by rfl) (fun wv hS => by obtain ⟨s0, s1, s2, s3, s4, s5, s6, s7, s8⟩ := hS; go_simp; try with_reducible rfl) ?_)
                  try simp only [Act.put, List.getElem_toArray, List.getElem_cons_succ, List.getElem_cons_zero, List.setIfInBounds_toArray, List.set_cons_zero, List.set_cons_succ]
                  first | (refine Wk.skip (m := 8) (k := 22) rfl (by rfl) ?_) | (refine Wk.step (m := 8) (k := 22) (v := _) rfl (by rfl) (fun wv hS => by obtain ⟨s0, s1, s2, s3, s4, s5, s6, s7, s8⟩ := hS; go_simp; try with_reducible rfl) ?_)
                  try simp only [Act.put, List.getElem_toArray, List.getElem_cons_succ, List.getElem_cons_zero, List.setIfInBounds_toArray, List.set_cons_zero, List.set_cons_succ]
                  first | (refine Wk.skip (m := 7) (k := 23) rfl (by rfl) ?_) | (refine Wk.step (m := 7) (k := 23) (v := _) rfl (by rfl) (fun wv hS => by obtain ⟨s0, s1, s2, s3, s4, s5, s6, s7, s8⟩ := hS; go_simp; try with_reducible rfl) ?_)
                  try simp only [Act.put, List.getElem_toArray, List.getElem_cons_succ, List.getElem_cons_zero, List.setIfInBounds_toArray, List.set_cons_zero, List.set_cons_succ]
                  first | (refine Wk.skip (m := 6) (k := 24) rfl (by rfl) ?_) | (refine Wk.step (m := 6) (k := 24) (v := _) rfl (by rfl) (fun wv hS => by obtain ⟨s0, s1, s2, s3, s4, s5, s6, s7, s8⟩ := hS; go_simp; try with_reducible rfl) ?_)
                  try simp only [Act.put, List.getElem_toArray, List.getElem_cons_succ, List.getElem_cons_zero, List.setIfInBounds_toArray, List.set_cons_zero, List.set_cons_succ]
                  first | (refine Wk.skip (m := 5) (k := 25) rfl (by rfl) ?_) | (refine Wk.step (m := 5) (k := 25) (v := _) rfl (by rfl) (fun wv hS => by obtain ⟨s0, s1, s2, s3, s4, s5, s6, s7, s8⟩ := hS; go_simp; try with_reducible rfl) ?_)
                  try simp only [Act.put, List.getElem_toArray, List.getElem_cons_succ, List.getElem_cons_zero, List.setIfInBounds_toArray, List.set_cons_zero, List.set_cons_succ]
                  first | (refine Wk.skip (m := 4) (k := 26) rfl (by rfl) ?_) | (refine Wk.step (m := 4) (k := 26) (v := _) rfl (by rfl) (fun wv hS => by obtain ⟨s0, s1, s2, s3, s4, s5, s6, s7, s8⟩ := hS; go_simp; try with_reducible rfl) ?_)
                  try simp only [Act.put, List.getElem_toArray, List.getElem_cons_succ, List.getElem_cons_zero, List.setIfInBounds_toArray, List.set_cons_zero, List.set_cons_succ]
                  first | (refine Wk.skip (m := 3) (k := 27) rfl (by rfl) ?_) | (refine Wk.step (m := 3) (k := 27) (v := _) rfl (by rfl) (fun wv hS => by obtain ⟨s0, s1, s2, s3, s4, s5, s6, s7, s8⟩ := hS; go_simp; try with_reducible rfl) ?_)
                  try simp only [Act.put, List.getElem_toArray, List.getElem_cons_succ, List.getElem_cons_zero, List.setIfInBounds_toArray, List.set_cons_zero, List.set_cons_succ]
                  first | (refine Wk.skip (m := 2) (k := 28) rfl (by rfl) ?_) | (refine Wk.step (m := 2) (k := 28) (v := _) rfl (by rfl) (fun wv hS => by obtain ⟨s0, s1, s2, s3, s4, s5, s6, s7, s8⟩ := hS; go_simp; try with_reducible rfl) ?_)
                  try simp only [Act.put, List.getElem_toArray, List.getElem_cons_succ, List.getElem_cons_zero, List.setIfInBounds_toArray, List.set_cons_zero, List.set_cons_succ]
                  first | (refine Wk.skip (m := 1) (k := 29) rfl (by rfl) ?_) | (refine Wk.step (m := 1) (k := 29) (v := _) rfl (by rfl) (fun wv hS => by obtain ⟨s0, s1, s2, s3, s4, s5, s6, s7, s8⟩ := hS; go_simp; try with_reducible rfl) ?_)
                  try simp only [Act.put, List.getElem_toArray, List.getElem_cons_succ, List.getElem_cons_zero, List.setIfInBounds_toArray, List.set_cons_zero, List.set_cons_succ]
                  first | (refine Wk.skip (m := 0) (k := 30) rfl (by rfl) ?_) | (refine Wk.step (m := 0) (k := 30) (v := _) rfl (by rfl) (fun wv hS => by obtain ⟨s0, s1, s2, s3, s4, s5, s6, s7, s8⟩ := hS; go_simp; try with_reducible rfl) ?_)
                  try simp only [Act.put, List.getElem_toArray, List.getElem_cons_succ, List.getElem_cons_zero, List.setIfInBounds_toArray, List.set_cons_zero, List.set_cons_succ]
                  refine Wk.done fun wE hE => ?_
                  obtain ⟨mE, k0, k1, j2, q0, q1, q2, q3, q4⟩ := hE
                  replace MR := MR.trans mE
                  replace hMX := hMX.trans mE
                  rcases Nat.eq_zero_or_pos k with hk0 | hk0
                  · have hkb : (k == 0) = true := by simp [hk0]
                    have hk1 : decide ((0 : Int) < (k : Int)) = false := decide_eq_false (by omega)
                    have hk1n : decide (0 < k) = false := decide_eq_false (by omega)
                    have HE := Lib.hid (allN_go hS.out (show (wfS n0 zl n1 zs n) k = true by unfold wfS; rw [← hx.out, hA, hB2, hC, hD, hkb]; rfl))
                    clear hC hB2 hA hk0 hkb j2w
                    go_wp2_with fail
                    go_roundw
                    case rel => exact ⟨rfl, k + 1, by omega, by go_num, HE.out, hMX⟩
                    case measure => simp [intOf]; omega
                  · obtain ⟨q, hq⟩ : ∃ q, Hid (k = q + 1) := ⟨k - 1, by show k = k - 1 + 1; omega⟩
                    obtain ⟨b2, off2, y2, eb2, hb3, hy2, f0, f1, f2, f3, f4⟩ := HasHop.at _ _ _ _ _ _ (h.mk MR hB' (.inr (Nat.le_refl _))) (show q < n by have := hq.out; omega)
                    simp only [Option.some.injEq, Addr.mk.injEq, and_true] at eb2
                    obtain ⟨rfl, rfl⟩ := eb2
                    clear f1 f3 f4
                    have i4 : (0 : Int) ≤ (q : Int) := by omega
                    have i5 : (q : Int) < (n : Int) := by have := hq.out; omega
                    have hw3 : IntKind.i64.wrap ((k : Int) - 1) = (q : Int) := by rw [IntKind.wrap_i64]; have := hq.out; omega
                    have hk1 : decide ((0 : Int) < (k : Int)) = true := decide_eq_true (by omega)
                    have hk1n : decide (0 < k) = true := decide_eq_true (by omega)
                    have hyq := Lib.hid (show y2 = zs.getD (k - 1) default by rw [hy2.out, hq.out, Nat.add_sub_cancel])
                    have hbE := World.block_lt_of_cell? _ _ q0
                    simp only at hbE
                    have hkb : (k == 0) = false := by simp; omega
                    cases hR : remB zl n1 y2 x
                    · have HE := Lib.hid (allN_stop (p := wfS n0 zl n1 zs n) (n := n) (show (wfS n0 zl n1 zs n) k = false by unfold wfS; rw [← hx.out, ← hyq.out, hA, hB2, hC, hD, hkb, hR]; rfl) hlt)
                      go_wp2_with fail
                      refine wp_region_wk (fun w' => Mk0 wE w' ∧ w'.cell? ⟨w.heap.size, 0, none⟩ = some (.slice a0 n0 c0) ∧ w'.cell? ⟨w.heap.size, 1, none⟩ = some (.slice a1 n1 c1) ∧ w'.cell? ⟨w.heap.size + 1, 2, none⟩ = some (.slice (some ⟨b, off, none⟩) n c) ∧ w'.cell? ⟨wr.heap.size, 0, none⟩ = some (.int .i64 x.nd) ∧ w'.cell? ⟨wr.heap.size, 1, none⟩ = some (.int .i64 x.ing) ∧ w'.cell? ⟨wr.heap.size, 2, none⟩ = some (.int .i64 x.eg) ∧ w'.cell? ⟨wr.heap.size, 3, none⟩ = some (.int .i64 x.exp) ∧ w'.cell? ⟨wr.heap.size, 4, none⟩ = some (.int .i64 x.mac) ∧ w'.cell? ⟨b, off + q * 5, none⟩ = some (.int .i64 y2.nd) ∧ w'.cell? ⟨b, off + q * 5 + 2, none⟩ = some (.int .i64 y2.eg)) (by kernel_rfl) (by kernel_rfl) (⟨Mk.drew1 _, k0, k1, j2, q0, q1, q2, q3, q4, f0, f2⟩) ?_
                      change Wk _ _ _ _ 21 0 _
                      first | (refine Wk.skip (m := 20) (k := 0) rfl (by rfl) ?_) | (refine Wk.step (m := 20) (k := 0) (v := _) rfl (by rfl) (fun wv hS => by obtain ⟨s0, s1, s2, s3, s4, s5, s6, s7, s8, s9, s10⟩ := hS; go_simp; try with_reducible rfl) ?_)
                      try simp only [Act.put, List.getElem_toArray, List.getElem_cons_zero, List.setIfInBounds_toArray, List.set_cons_zero, List.set_cons_succ]
                      first | (refine Wk.skip (m := 19) (k := 1) rfl (by rfl) ?_) | (refine Wk.step (m := 19) (k := 1) (v := _) rfl (by rfl) (fun wv hS => by obtain ⟨s0, s1, s2, s3, s4, s5, s6, s7, s8, s9, s10⟩ := hS; go_simp; try with_reducible rfl) ?_)
                      try simp only [Act.put, List.getElem_toArray, List.getElem_cons_succ, List.getElem_cons_zero, List.setIfInBounds_toArray, List.set_cons_zero, List.set_cons_succ]
                      first | (refine Wk.skip (m := 18) (k := 2) rfl (by rfl) ?_) | (refine Wk.step (m := 18) (k := 2) (v := _) rfl (by rfl) (fun wv hS => by obtain ⟨s0, s1, s2, s3, s4, s5, s6, s7, s8, s9, s10⟩ := hS; go_simp; try with_reducible rfl) ?_)
                      try simp only [Act.put, List.getElem_toArray, List.getElem_cons_succ, List.getElem_cons_zero, List.setIfInBounds_toArray, List.set_cons_zero, List.set_cons_succ]
                      first | (refine Wk.skip (m := 17) (k := 3) rfl (by rfl) ?_) | (refine Wk.step (m := 17) (k := 3) (v := _) rfl (by rfl) (fun wv hS => by obtain ⟨s0, s1, s2, s3, s4, s5, s6, s7, s8, s9, s10⟩ := hS; go_simp; try with_reducible rfl) ?_)
                      try simp only [Act.put, List.getElem_toArray, List.getElem_cons_succ, List.getElem_cons_zero, List.setIfInBounds_toArray, List.set_cons_zero, List.set_cons_succ]
                      first | (refine Wk.skip (m := 16) (k := 4) rfl (by rfl) ?_) | (refine Wk.step (m := 16) (k := 4) (v := _) rfl (by rfl) (fun wv hS => by obtain ⟨s0, s1, s2, s3, s4, s5, s6, s7, s8, s9, s10⟩ := hS; go_simp; try with_reducible rfl) ?_)
                      try simp only [Act.put, List.getElem_toArray, List.getElem_cons_succ, List.getElem_cons_zero, List.setIfInBounds_toArray, List.set_cons_zero, List.set_cons_succ]
                      first | (refine Wk.skip (m := 15) (k := 5) rfl (by rfl) ?_) | (refine Wk.step (m := 15) (k := 5) (v := _) rfl (by rfl) (fun wv hS => by obtain ⟨s0, s1, s2, s3, s4, s5, s6, s7, s8, s9, s10⟩ := hS; go_simp; try with_reducible rfl) ?_)
                      try simp only [Act.put, List.getElem_toArray, List.getElem_cons_succ, List.getElem_cons_zero, List.setIfInBounds_toArray, List.set_cons_zero, List.set_cons_succ]
                      first | (refine Wk.skip (m := 14) (k := 6) rfl (by rfl) ?_) | (refine Wk.step (m := 14) (k := 6) (v := _) rfl (by rfl) (fun wv hS => by obtain ⟨s0, s1, s2, s3, s4, s5, s6, s7, s8, s9, s10⟩ := hS; go_simp; try with_reducible rfl) ?_)
                      try simp only [Act.put, List.getElem_toArray, List.getElem_cons_succ, List.getElem_cons_zero, List.setIfInBounds_toArray, List.set_cons_zero, List.set_cons_succ]
                      first | (refine Wk.skip (m := 13) (k := 7) rfl (by rfl) ?_) | (refine Wk.step (m := 13) (k := 7) (v := _) rfl (by rfl) (fun wv hS => by obtain ⟨s0, s1, s2, s3, s4, s5, s6, s7, s8, s9, s10⟩ := hS; go_simp; try with_reducible rfl) ?_)
                      try simp only [Act.put, List.getElem_toArray, List.getElem_cons_succ, List.getElem_cons_zero, List.setIfInBounds_toArray, List.set_cons_zero, List.set_cons_succ]
                      first | (refine Wk.skip (m := 12) (k := 8) rfl (by rfl) ?_) | (refine Wk.step (m := 12) (k := 8) (v := _) rfl (by rfl) (fun wv hS => by obtain ⟨s0, s1, s2, s3, s4, s5, s6, s7, s8, s9, s10⟩ := hS; go_simp; try with_reducible rfl) ?_)
                      try simp only [Act.put, List.getElem_toArray, List.getElem_cons_succ, List.getElem_cons_zero, List.setIfInBounds_toArray, List.set_cons_zero, List.set_cons_succ]
                      first | (refine Wk.skip (m := 11) (k := 9) rfl (by rfl) ?_) | (refine Wk.step (m := 11) (k := 9) (v := _) rfl (by rfl) (fun wv hS => by obtain ⟨s0, s1, s2, s3, s4, s5, s6, s7, s8, s9, s10⟩ := hS; go_simp; try with_reducible rfl) ?_)
                      try simp only [Act.put, List.getElem_toArray, List.getElem_cons_succ, List.getElem_cons_zero, List.setIfInBounds_toArray, List.set_cons_zero, List.set_cons_succ]
                      first | (refine Wk.skip (m := 10) (k := 10) rfl (by rfl) ?_) | (refine Wk.step (m := 10) (k := 10) (v := _) rfl (by rfl) (fun wv hS => by obtain ⟨s0, s1, s2, s3, s4, s5, s6, s7, s8, s9, s10⟩ := hS; go_simp; try with_reducible rfl) ?_)
                      try simp only [Act.put, List.getElem_toArray, List.getElem_cons_succ, List.getElem_cons_zero, List.setIfInBounds_toArray, List.set_cons_zero, List.set_cons_succ]
                      first | (refine Wk.skip (m := 9) (k := 11) rfl (by rfl) ?_) | (refine Wk.step (m := 9) (k := 11) (v := _) rfl (by rfl) (fun wv hS => by obtain ⟨s0, s1, s2, s3, s4, s5, s6, s7, s8, s9, s10⟩ := hS; go_simp; try with_reducible rfl) ?_)
                      try simp only [Act.put, List.getElem_toArray, List.getElem_cons_succ, List.getElem_cons_zero, List.setIfInBounds_toArray, List.set_cons_zero, List.set_cons_succ]
                      first | (refine Wk.skip (m := 8) (k := 12) rfl (by rfl) ?_) | (refine Wk.step (m := 8) (k := 12) (v := _) rfl (by rfl) (fun wv hS => by obtain ⟨s0, s1, s2, s3, s4, s5, s6, s7, s8, s9, s10⟩ := hS; go_simp; try with_reducible rfl) ?_)
                      try simp only [Act.put, List.getElem_toArray, List.getElem_cons_succ, List.getElem_cons_zero, List.setIfInBounds_toArray, List.set_cons_zero, List.set_cons_succ]
                      first | (refine Wk.skip (m := 7) (k := 13) rfl (by rfl) ?_) | (refine Wk.step (m := 7) (k := 13) (v := _) rfl (by rfl) (fun wv hS => by obtain ⟨s0, s1, s2, s3, s4, s5, s6, s7, s8, s9, s10⟩ := hS; go_simp; try with_reducible rfl) ?_)
                      try simp only [Act.put, List.getElem_toArray, List.getElem_cons_succ, List.getElem_cons_zero, List.setIfInBounds_toArray, List.set_cons_zero, List.set_cons_succ]
                      first | (refine Wk.skip (m := 6) (k := 14) rfl (by rfl) ?_) | (refine Wk.step (m := 6) (k := 14) (v := _) rfl (by rfl) (fun wv hS => by obtain ⟨s0, s1, s2, s3, s4, s5, s6, s7, s8, s9, s10⟩ := hS; go_simp; try with_reducible rfl) ?_)
                      try simp only [Act.put, List.getElem_toArray, List.getElem_cons_succ, List.getElem_cons_zero, List.setIfInBounds_toArray, List.set_cons_zero, List.set_cons_succ]
                      refine Wk.call (m := 5) (k := 15) (v := .tuple #[.int .i64 (remote zl y2.nd y2.eg n1).1, .int .i64 (remote zl y2.nd y2.eg n1).2]) _ _ rfl (by rfl) (fun wv hS => by obtain ⟨s0, s1, s2, s3, s4, s5, s6, s7, s8, s9, s10⟩ := hS; go_simp; first | done | exact ⟨rfl, rfl⟩ | with_reducible rfl) (fun wv hS => ?_) ?_; · obtain ⟨s0, s1, s2, s3, s4, s5, s6, s7, s8, s9, s10⟩ := hS; refine (specRemote a0 a1 n0 c0 n1 c1 B zl y2.nd y2.eg wv (hl.mk (MR.trans s0) hB (.inr (Nat.le_refl _))) (Nat.le_trans hB (MR.trans s0).size) hn1).mono ?_; rintro e w' ⟨rfl, mm⟩; exact ⟨rfl, s0.trans mm, mm.cellAt s1, mm.cellAt s2, mm.cellAt s3, mm.cellAt s4, mm.cellAt s5, mm.cellAt s6, mm.cellAt s7, mm.cellAt s8, mm.cellAt s9, mm.cellAt s10⟩
                      try simp only [Act.put, List.getElem_toArray, List.getElem_cons_succ, List.getElem_cons_zero, List.setIfInBounds_toArray, List.set_cons_zero, List.set_cons_succ]
                      first | (refine Wk.skip (m := 4) (k := 16) rfl (by rfl) ?_) | (refine Wk.step (m := 4) (k := 16) (v := _) rfl (by rfl) (fun wv hS => by obtain ⟨s0, s1, s2, s3, s4, s5, s6, s7, s8, s9, s10⟩ := hS; go_simp; try with_reducible rfl) ?_)
                      try simp only [Act.put, List.getElem_toArray, List.getElem_cons_succ, List.getElem_cons_zero, List.setIfInBounds_toArray, List.set_cons_zero, List.set_cons_succ]
                      first | (refine Wk.skip (m := 3) (k := 17) rfl (by rfl) ?_) | (refine Wk.step (m := 3) (k := 17) (v := _) rfl (by rfl) (fun wv hS => by obtain ⟨s0, s1, s2, s3, s4, s5, s6, s7, s8, s9, s10⟩ := hS; go_simp; try with_reducible rfl) ?_)
                      try simp only [Act.put, List.getElem_toArray, List.getElem_cons_succ, List.getElem_cons_zero, List.setIfInBounds_toArray, List.set_cons_zero, List.set_cons_succ]
                      first | (refine Wk.skip (m := 2) (k := 18) rfl (by rfl) ?_) | (refine Wk.step (m := 2) (k := 18) (v := _) rfl (by rfl) (fun wv hS => by obtain ⟨s0, s1, s2, s3, s4, s5, s6, s7, s8, s9, s10⟩ := hS; go_simp; try with_reducible rfl) ?_)
                      try simp only [Act.put, List.getElem_toArray, List.getElem_cons_succ, List.getElem_cons_zero, List.setIfInBounds_toArray, List.set_cons_zero, List.set_cons_succ]
                      first | (refine Wk.skip (m := 1) (k := 19) rfl (by rfl) ?_) | (refine Wk.step (m := 1) (k := 19) (v := _) rfl (by rfl) (fun wv hS => by obtain ⟨s0, s1, s2, s3, s4, s5, s6, s7, s8, s9, s10⟩ := hS; go_simp; try with_reducible rfl) ?_)
                      try simp only [Act.put, List.getElem_toArray, List.getElem_cons_succ, List.getElem_cons_zero, List.setIfInBounds_toArray, List.set_cons_zero, List.set_cons_succ]
                      first | (refine Wk.skip (m := 0) (k := 20) rfl (by rfl) ?_) | (refine Wk.step (m := 0) (k := 20) (v := _) rfl (by rfl) (fun wv hS => by obtain ⟨s0, s1, s2, s3, s4, s5, s6, s7, s8, s9, s10⟩ := hS; go_simp; try with_reducible rfl) ?_)
                      try simp only [Act.put, List.getElem_toArray, List.getElem_cons_succ, List.getElem_cons_zero, List.setIfInBounds_toArray, List.set_cons_zero, List.set_cons_succ]
                      refine Wk.done fun wE hE => ?_
                      obtain ⟨mE, k0, k1, j2, q0, q1, q2, q3, q4, f0, f2⟩ := hE
                      have MZ := MR.trans mE
                      have hMZ := hMX.trans mE
                      cases r1 : ((remote zl y2.nd y2.eg n1).1 == x.nd)
                      · have r1' : ((remote zl y2.nd y2.eg n1).1 != x.nd) = true := by simp only [bne, r1]; rfl
                        clear hR hC hB2 hA r1
                        go_wp2_with fail
                        go_ret
                        exact ⟨retB (by rw [HR.out, ← wf_same n0 zl n1 zs n, HE.out]), MZ⟩
                      · have r1' : ((remote zl y2.nd y2.eg n1).1 != x.nd) = false := by simp only [bne, r1]; rfl
                        have r2' : ((remote zl y2.nd y2.eg n1).2 != x.ing) = true := by unfold remB at hR; rw [r1] at hR; simp only [bne]; simpa using hR
                        clear hR hC hB2 hA r1
                        go_wp2_with fail
                        go_ret
                        exact ⟨retB (by rw [HR.out, ← wf_same n0 zl n1 zs n, HE.out]), MZ⟩
                    · have HE := Lib.hid (allN_go hS.out (show (wfS n0 zl n1 zs n) k = true by unfold wfS; rw [← hx.out, ← hyq.out, hA, hB2, hC, hD, hkb, hR]; rfl))
                      go_wp2_with fail
                      refine wp_region_wk (fun w' => Mk0 wE w' ∧ w'.cell? ⟨w.heap.size, 0, none⟩ = some (.slice a0 n0 c0) ∧ w'.cell? ⟨w.heap.size, 1, none⟩ = some (.slice a1 n1 c1) ∧ w'.cell? ⟨w.heap.size + 1, 2, none⟩ = some (.slice (some ⟨b, off, none⟩) n c) ∧ w'.cell? ⟨wr.heap.size, 0, none⟩ = some (.int .i64 x.nd) ∧ w'.cell? ⟨wr.heap.size, 1, none⟩ = some (.int .i64 x.ing) ∧ w'.cell? ⟨wr.heap.size, 2, none⟩ = some (.int .i64 x.eg) ∧ w'.cell? ⟨wr.heap.size, 3, none⟩ = some (.int .i64 x.exp) ∧ w'.cell? ⟨wr.heap.size, 4, none⟩ = some (.int .i64 x.mac) ∧ w'.cell? ⟨b, off + q * 5, none⟩ = some (.int .i64 y2.nd) ∧ w'.cell? ⟨b, off + q * 5 + 2, none⟩ = some (.int .i64 y2.eg)) (by kernel_rfl) (by kernel_rfl) (⟨Mk.drew1 _, k0, k1, j2, q0, q1, q2, q3, q4, f0, f2⟩) ?_
                      change Wk _ _ _ _ 21 0 _
                      first | (refine Wk.skip (m := 20) (k := 0) rfl (by rfl) ?_) | (refine Wk.step (m := 20) (k := 0) (v := _) rfl (by rfl) (fun wv hS => by obtain ⟨s0, s1, s2, s3, s4, s5, s6, s7, s8, s9, s10⟩ := hS; go_simp; try with_reducible rfl) ?_)
                      try simp only [Act.put, List.getElem_toArray, List.getElem_cons_zero, List.setIfInBounds_toArray, List.set_cons_zero, List.set_cons_succ]
                      first | (refine Wk.skip (m := 19) (k := 1) rfl (by rfl) ?_) | (refine Wk.step (m := 19) (k := 1) (v := _) rfl (by rfl) (fun wv hS => by obtain ⟨s0, s1, s2, s3, s4, s5, s6, s7, s8, s9, s10⟩ := hS; go_simp; try with_reducible rfl) ?_)
                      try simp only [Act.put, List.getElem_toArray, List.getElem_cons_succ, List.getElem_cons_zero, List.setIfInBounds_toArray, List.set_cons_zero, List.set_cons_succ]
                      first | (refine Wk.skip (m := 18) (k := 2) rfl (by rfl) ?_) | (refine Wk.step (m := 18) (k := 2) (v := _) rfl (by rfl) (fun wv hS => by obtain ⟨s0, s1, s2, s3, s4, s5, s6, s7, s8, s9, s10⟩ := hS; go_simp; try with_reducible rfl) ?_)
                      try simp only [Act.put, List.getElem_toArray, List.getElem_cons_succ, List.getElem_cons_zero, List.setIfInBounds_toArray, List.set_cons_zero, List.set_cons_succ]
                      first | (refine Wk.skip (m := 17) (k := 3) rfl (by rfl) ?_) | (refine Wk.step (m := 17) (k := 3) (v := _) rfl (by rfl) (fun wv hS => by obtain ⟨s0, s1, s2, s3, s4, s5, s6, s7, s8, s9, s10⟩ := hS; go_simp; try with_reducible rfl) ?_)
                      try simp only [Act.put, List.getElem_toArray, List.getElem_cons_succ, List.getElem_cons_zero, List.setIfInBounds_toArray, List.set_cons_zero, List.set_cons_succ]
                      first | (refine Wk.skip (m := 16) (k := 4) rfl (by rfl) ?_) | (refine Wk.step (m := 16) (k := 4) (v := _) rfl (by rfl) (fun wv hS => by obtain ⟨s0, s1, s2, s3, s4, s5, s6, s7, s8, s9, s10⟩ := hS; go_simp; try with_reducible rfl) ?_)
                      try simp only [Act.put, List.getElem_toArray, List.getElem_cons_succ, List.getElem_cons_zero, List.setIfInBounds_toArray, List.set_cons_zero, List.set_cons_succ]
                      first | (refine Wk.skip (m := 15) (k := 5) rfl (by rfl) ?_) | (refine Wk.step (m := 15) (k := 5) (v := _) rfl (by rfl) (fun wv hS => by obtain ⟨s0, s1, s2, s3, s4, s5, s6, s7, s8, s9, s10⟩ := hS; go_simp; try with_reducible rfl) ?_)
                      try simp only [Act.put, List.getElem_toArray, List.getElem_cons_succ, List.getElem_cons_zero, List.setIfInBounds_toArray, List.set_cons_zero, List.set_cons_succ]
                      first | (refine Wk.skip (m := 14) (k := 6) rfl (by rfl) ?_) | (refine Wk.step (m := 14) (k := 6) (v := _) rfl (by rfl) (fun wv hS => by obtain ⟨s0, s1, s2, s3, s4, s5, s6, s7, s8, s9, s10⟩ := hS; go_simp; try with_reducible rfl) ?_)
                      try simp only [Act.put, List.getElem_toArray, List.getElem_cons_succ, List.getElem_cons_zero, List.setIfInBounds_toArray, List.set_cons_zero, List.set_cons_succ]
                      first | (refine Wk.skip (m := 13) (k := 7) rfl (by rfl) ?_) | (refine Wk.step (m := 13) (k := 7) (v := _) rfl (by rfl) (fun wv hS => by obtain ⟨s0, s1, s2, s3, s4, s5, s6, s7, s8, s9, s10⟩ := hS; go_simp; try with_reducible rfl) ?_)
                      try simp only [Act.put, List.getElem_toArray, List.getElem_cons_succ, List.getElem_cons_zero, List.setIfInBounds_toArray, List.set_cons_zero, List.set_cons_succ]
                      first | (refine Wk.skip (m := 12) (k := 8) rfl (by rfl) ?_) | (refine Wk.step (m := 12) (k := 8) (v := _) rfl (by rfl) (fun wv hS => by obtain ⟨s0, s1, s2, s3, s4, s5, s6, s7, s8, s9, s10⟩ := hS; go_simp; try with_reducible rfl) ?_)
                      try simp only [Act.put, List.getElem_toArray, List.getElem_cons_succ, List.getElem_cons_zero, List.setIfInBounds_toArray, List.set_cons_zero, List.set_cons_succ]
                      first | (refine Wk.skip (m := 11) (k := 9) rfl (by rfl) ?_) | (refine Wk.step (m := 11) (k := 9) (v := _) rfl (by rfl) (fun wv hS => by obtain ⟨s0, s1, s2, s3, s4, s5, s6, s7, s8, s9, s10⟩ := hS; go_simp; try with_reducible rfl) ?_)
                      try simp only [Act.put, List.getElem_toArray, List.getElem_cons_succ, List.getElem_cons_zero, List.setIfInBounds_toArray, List.set_cons_zero, List.set_cons_succ]
                      first | (refine Wk.skip (m := 10) (k := 10) rfl (by rfl) ?_) | (refine Wk.step (m := 10) (k := 10) (v := _) rfl (by rfl) (fun wv hS => by obtain ⟨s0, s1, s2, s3, s4, s5, s6, s7, s8, s9, s10⟩ := hS; go_simp; try with_reducible rfl) ?_)
                      try simp only [Act.put, List.getElem_toArray, List.getElem_cons_succ, List.getElem_cons_zero, List.setIfInBounds_toArray, List.set_cons_zero, List.set_cons_succ]
                      first | (refine Wk.skip (m := 9) (k := 11) rfl (by rfl) ?_) | (refine Wk.step (m := 9) (k := 11) (v := _) rfl (by rfl) (fun wv hS => by obtain ⟨s0, s1, s2, s3, s4, s5, s6, s7, s8, s9, s10⟩ := hS; go_simp; try with_reducible rfl) ?_)
                      try simp only [Act.put, List.getElem_toArray, List.getElem_cons_succ, List.getElem_cons_zero, List.setIfInBounds_toArray, List.set_cons_zero, List.set_cons_succ]
                      first | (refine Wk.skip (m := 8) (k := 12) rfl (by rfl) ?_) | (refine Wk.step (m := 8) (k := 12) (v := _) rfl (by rfl) (fun wv hS => by obtain ⟨s0, s1, s2, s3, s4, s5, s6, s7, s8, s9, s10⟩ := hS; go_simp; try with_reducible rfl) ?_)
                      try simp only [Act.put, List.getElem_toArray, List.getElem_cons_succ, List.getElem_cons_zero, List.setIfInBounds_toArray, List.set_cons_zero, List.set_cons_succ]
                      first | (refine Wk.skip (m := 7) (k := 13) rfl (by rfl) ?_) | (refine Wk.step (m := 7) (k := 13) (v := _) rfl (by rfl) (fun wv hS => by obtain ⟨s0, s1, s2, s3, s4, s5, s6, s7, s8, s9, s10⟩ := hS; go_simp; try with_reducible rfl) ?_)
                      try simp only [Act.put, List.getElem_toArray, List.getElem_cons_succ, List.getElem_cons_zero, List.setIfInBounds_toArray, List.set_cons_zero, List.set_cons_succ]
                      first | (refine Wk.skip (m := 6) (k := 14) rfl (by rfl) ?_) | (refine Wk.step (m := 6) (k := 14) (v := _) rfl (by rfl) (fun wv hS => by obtain ⟨s0, s1, s2, s3, s4, s5, s6, s7, s8, s9, s10⟩ := hS; go_simp; try with_reducible rfl) ?_)
                      try simp only [Act.put, List.getElem_toArray, List.getElem_cons_succ, List.getElem_cons_zero, List.setIfInBounds_toArray, List.set_cons_zero, List.set_cons_succ]
                      refine Wk.call (m := 5) (k := 15) (v := .tuple #[.int .i64 (remote zl y2.nd y2.eg n1).1, .int .i64 (remote zl y2.nd y2.eg n1).2]) _ _ rfl (by rfl) (fun wv hS => by obtain ⟨s0, s1, s2, s3, s4, s5, s6, s7, s8, s9, s10⟩ := hS; go_simp; first | done | exact ⟨rfl, rfl⟩ | with_reducible rfl) (fun wv hS => ?_) ?_; · obtain ⟨s0, s1, s2, s3, s4, s5, s6, s7, s8, s9, s10⟩ := hS; refine (specRemote a0 a1 n0 c0 n1 c1 B zl y2.nd y2.eg wv (hl.mk (MR.trans s0) hB (.inr (Nat.le_refl _))) (Nat.le_trans hB (MR.trans s0).size) hn1).mono ?_; rintro e w' ⟨rfl, mm⟩; exact ⟨rfl, s0.trans mm, mm.cellAt s1, mm.cellAt s2, mm.cellAt s3, mm.cellAt s4, mm.cellAt s5, mm.cellAt s6, mm.cellAt s7, mm.cellAt s8, mm.cellAt s9, mm.cellAt s10⟩
                      try simp only [Act.put, List.getElem_toArray, List.getElem_cons_succ, List.getElem_cons_zero, List.setIfInBounds_toArray, List.set_cons_zero, List.set_cons_succ]
                      first | (refine Wk.skip (m := 4) (k := 16) rfl (by rfl) ?_) | (refine Wk.step (m := 4) (k := 16) (v := _) rfl (by rfl) (fun wv hS => by obtain ⟨s0, s1, s2, s3, s4, s5, s6, s7, s8, s9, s10⟩ := hS; go_simp; try with_reducible rfl) ?_)
                      try simp only [Act.put, List.getElem_toArray, List.getElem_cons_succ, List.getElem_cons_zero, List.setIfInBounds_toArray, List.set_cons_zero, List.set_cons_succ]
                      first | (refine Wk.skip (m := 3) (k := 17) rfl (by rfl) ?_) | (refine Wk.step (m := 3) (k := 17) (v := _) rfl (by rfl) (fun wv hS => by obtain ⟨s0, s1, s2, s3, s4, s5, s6, s7, s8, s9, s10⟩ := hS; go_simp; try with_reducible rfl) ?_)
                      try simp only [Act.put, List.getElem_toArray, List.getElem_cons_succ, List.getElem_cons_zero, List.setIfInBounds_toArray, List.set_cons_zero, List.set_cons_succ]
                      first | (refine Wk.skip (m := 2) (k := 18) rfl (by rfl) ?_) | (refine Wk.step (m := 2) (k := 18) (v := _) rfl (by rfl) (fun wv hS => by obtain ⟨s0, s1, s2, s3, s4, s5, s6, s7, s8, s9, s10⟩ := hS; go_simp; try with_reducible rfl) ?_)
                      try simp only [Act.put, List.getElem_toArray, List.getElem_cons_succ, List.getElem_cons_zero, List.setIfInBounds_toArray, List.set_cons_zero, List.set_cons_succ]
                      first | (refine Wk.skip (m := 1) (k := 19) rfl (by rfl) ?_) | (refine Wk.step (m := 1) (k := 19) (v := _) rfl (by rfl) (fun wv hS => by obtain ⟨s0, s1, s2, s3, s4, s5, s6, s7, s8, s9, s10⟩ := hS; go_simp; try with_reducible rfl) ?_)
                      try simp only [Act.put, List.getElem_toArray, List.getElem_cons_succ, List.getElem_cons_zero, List.setIfInBounds_toArray, List.set_cons_zero, List.set_cons_succ]
                      first | (refine Wk.skip (m := 0) (k := 20) rfl (by rfl) ?_) | (refine Wk.step (m := 0) (k := 20) (v := _) rfl (by rfl) (fun wv hS => by obtain ⟨s0, s1, s2, s3, s4, s5, s6, s7, s8, s9, s10⟩ := hS; go_simp; try with_reducible rfl) ?_)
                      try simp only [Act.put, List.getElem_toArray, List.getElem_cons_succ, List.getElem_cons_zero, List.setIfInBounds_toArray, List.set_cons_zero, List.set_cons_succ]
                      refine Wk.done fun wE hE => ?_
                      obtain ⟨mE, k0, k1, j2, q0, q1, q2, q3, q4, f0, f2⟩ := hE
                      have MZ := MR.trans mE
                      have hMZ := hMX.trans mE
                      have r1 : ((remote zl y2.nd y2.eg n1).1 != x.nd) = false := by unfold remB at hR; simp only [Bool.and_eq_true] at hR; simp only [bne, hR.1]; rfl
                      have r2 : ((remote zl y2.nd y2.eg n1).2 != x.ing) = false := by unfold remB at hR; simp only [Bool.and_eq_true] at hR; simp only [bne, hR.2]; rfl
                      clear hR hC hB2 hA
                      go_wp2_with fail
                      go_roundw
                      case rel => exact ⟨rfl, k + 1, by omega, by go_num, HE.out, hMZ⟩
                      case measure => simp [intOf]; omega
                · by_cases hL : k + 1 < n
                  · have hLt : decide ((k : Int) < (n : Int) - 1) = true := decide_eq_true (by omega)
                    have HE := Lib.hid (allN_stop (p := wfS n0 zl n1 zs n) (n := n) (show (wfS n0 zl n1 zs n) k = false by unfold wfS; rw [← hx.out]; rw [hA, hB2, hC, hD, decide_eq_true hL]; rfl) hlt)
                    have HC := Lib.hid (show inUp (fun j => (colN THop.nd zs k).getD j 0) x.nd k = false by rw [hcong, hC])
                    clear hC hB2 hA
                    go_wp2_with fail
                    refine wp_region_wk (fun w' => Mk0 (wr.alloc (Obj.cells #[Value.int .i64 x.nd, Value.int .i64 x.ing, Value.int .i64 x.eg, Value.int .i64 x.exp, Value.int .i64 x.mac] 61)) w' ∧ w'.cell? ⟨w.heap.size, 0, none⟩ = some (.slice a0 n0 c0) ∧ w'.cell? ⟨w.heap.size, 1, none⟩ = some (.slice a1 n1 c1) ∧ w'.cell? ⟨w.heap.size + 1, 2, none⟩ = some (.slice (some ⟨b, off, none⟩) n c) ∧ w'.cell? ⟨wr.heap.size, 0, none⟩ = some (.int .i64 x.nd) ∧ w'.cell? ⟨wr.heap.size, 1, none⟩ = some (.int .i64 x.ing) ∧ w'.cell? ⟨wr.heap.size, 2, none⟩ = some (.int .i64 x.eg) ∧ w'.cell? ⟨wr.heap.size, 3, none⟩ = some (.int .i64 x.exp) ∧ w'.cell? ⟨wr.heap.size, 4, none⟩ = some (.int .i64 x.mac)) (by kernel_rfl) (by kernel_rfl) (⟨Mk.drew1 _, k0, k1, j2, q0, q1, q2, q3, q4⟩) ?_
                    change Wk _ _ _ _ 31 0 _
                    first | (refine Wk.skip (m := 30) (k := 0) rfl (by rfl) ?_) | (refine Wk.step (m := 30) (k := 0) (v := _) rfl (by rfl) (fun wv hS => by obtain ⟨s0, s1, s2, s3, s4, s5, s6, s7, s8⟩ := hS; go_simp; try with_reducible rfl) ?_)
                    try simp only [Act.put, List.getElem_toArray, List.getElem_cons_zero, List.setIfInBounds_toArray, List.set_cons_zero, List.set_cons_succ]
                    refine Wk.call (m := 29) (k := 1) (v := .bool true) _ _ rfl (by rfl) (fun wv hS => by obtain ⟨s0, s1, s2, s3, s4, s5, s6, s7, s8⟩ := hS; go_simp; first | done | exact ⟨rfl, rfl⟩ | with_reducible rfl) (fun wv hS => ?_) ?_; · obtain ⟨s0, s1, s2, s3, s4, s5, s6, s7, s8⟩ := hS; refine (specVHop x.nd x.ing x.eg x.exp x.mac wv).mono ?_; rintro e w' ⟨he, mm⟩; exact ⟨by rw [he, HA.out], s0.trans mm, mm.cellAt s1, mm.cellAt s2, mm.cellAt s3, mm.cellAt s4, mm.cellAt s5, mm.cellAt s6, mm.cellAt s7, mm.cellAt s8⟩
                    try simp only [Act.put, List.getElem_toArray, List.getElem_cons_succ, List.getElem_cons_zero, List.setIfInBounds_toArray, List.set_cons_zero, List.set_cons_succ]
                    first | (refine Wk.skip (m := 28) (k := 2) rfl (by rfl) ?_) | (refine Wk.step (m := 28) (k := 2) (v := _) rfl (by rfl) (fun wv hS => by obtain ⟨s0, s1, s2, s3, s4, s5, s6, s7, s8⟩ := hS; go_simp; try with_reducible rfl) ?_)
                    try simp only [Act.put, List.getElem_toArray, List.getElem_cons_succ, List.getElem_cons_zero, List.setIfInBounds_toArray, List.set_cons_zero, List.set_cons_succ]
                    first | (refine Wk.skip (m := 27) (k := 3) rfl (by rfl) ?_) | (refine Wk.step (m := 27) (k := 3) (v := _) rfl (by rfl) (fun wv hS => by obtain ⟨s0, s1, s2, s3, s4, s5, s6, s7, s8⟩ := hS; go_simp; try with_reducible rfl) ?_)
                    try simp only [Act.put, List.getElem_toArray, List.getElem_cons_succ, List.getElem_cons_zero, List.setIfInBounds_toArray, List.set_cons_zero, List.set_cons_succ]
                    first | (refine Wk.skip (m := 26) (k := 4) rfl (by rfl) ?_) | (refine Wk.step (m := 26) (k := 4) (v := _) rfl (by rfl) (fun wv hS => by obtain ⟨s0, s1, s2, s3, s4, s5, s6, s7, s8⟩ := hS; go_simp; try with_reducible rfl) ?_)
                    try simp only [Act.put, List.getElem_toArray, List.getElem_cons_succ, List.getElem_cons_zero, List.setIfInBounds_toArray, List.set_cons_zero, List.set_cons_succ]
                    first | (refine Wk.skip (m := 25) (k := 5) rfl (by rfl) ?_) | (refine Wk.step (m := 25) (k := 5) (v := _) rfl (by rfl) (fun wv hS => by obtain ⟨s0, s1, s2, s3, s4, s5, s6, s7, s8⟩ := hS; go_simp; try with_reducible rfl) ?_)
                    try simp only [Act.put, List.getElem_toArray, List.getElem_cons_succ, List.getElem_cons_zero, List.setIfInBounds_toArray, List.set_cons_zero, List.set_cons_succ]
                    first | (refine Wk.skip (m := 24) (k := 6) rfl (by rfl) ?_) | (refine Wk.step (m := 24) (k := 6) (v := _) rfl (by rfl) (fun wv hS => by obtain ⟨s0, s1, s2, s3, s4, s5, s6, s7, s8⟩ := hS; go_simp; try with_reducible rfl) ?_)
                    try simp only [Act.put, List.getElem_toArray, List.getElem_cons_succ, List.getElem_cons_zero, List.setIfInBounds_toArray, List.set_cons_zero, List.set_cons_succ]
                    refine Wk.call (m := 23) (k := 7) (v := .bool true) _ _ rfl (by rfl) (fun wv hS => by obtain ⟨s0, s1, s2, s3, s4, s5, s6, s7, s8⟩ := hS; go_simp; first | done | exact ⟨rfl, rfl⟩ | with_reducible rfl) (fun wv hS => ?_) ?_; · obtain ⟨s0, s1, s2, s3, s4, s5, s6, s7, s8⟩ := hS; refine (specIsAS a0 a1 n0 c0 n1 c1 x.nd wv hn0).mono ?_; rintro e w' ⟨he, mm⟩; exact ⟨by rw [he, HBq.out], s0.trans mm, mm.cellAt s1, mm.cellAt s2, mm.cellAt s3, mm.cellAt s4, mm.cellAt s5, mm.cellAt s6, mm.cellAt s7, mm.cellAt s8⟩
                    try simp only [Act.put, List.getElem_toArray, List.getElem_cons_succ, List.getElem_cons_zero, List.setIfInBounds_toArray, List.set_cons_zero, List.set_cons_succ]
                    first | (refine Wk.skip (m := 22) (k := 8) rfl (by rfl) ?_) | (refine Wk.step (m := 22) (k := 8) (v := _) rfl (by rfl) (fun wv hS => by obtain ⟨s0, s1, s2, s3, s4, s5, s6, s7, s8⟩ := hS; go_simp; try with_reducible rfl) ?_)
                    try simp only [Act.put, List.getElem_toArray, List.getElem_cons_succ, List.getElem_cons_zero, List.setIfInBounds_toArray, List.set_cons_zero, List.set_cons_succ]
                    first | (refine Wk.skip (m := 21) (k := 9) rfl (by rfl) ?_) | (refine Wk.step (m := 21) (k := 9) (v := _) rfl (by rfl) (fun wv hS => by obtain ⟨s0, s1, s2, s3, s4, s5, s6, s7, s8⟩ := hS; go_simp; try with_reducible rfl) ?_)
                    try simp only [Act.put, List.getElem_toArray, List.getElem_cons_succ, List.getElem_cons_zero, List.setIfInBounds_toArray, List.set_cons_zero, List.set_cons_succ]
                    first | (refine Wk.skip (m := 20) (k := 10) rfl (by rfl) ?_) | (refine Wk.step (m := 20) (k := 10) (v := _) rfl (by rfl) (fun wv hS => by obtain ⟨s0, s1, s2, s3, s4, s5, s6, s7, s8⟩ := hS; go_simp; try with_reducible rfl) ?_)
                    try simp only [Act.put, List.getElem_toArray, List.getElem_cons_succ, List.getElem_cons_zero, List.setIfInBounds_toArray, List.set_cons_zero, List.set_cons_succ]
                    first | (refine Wk.skip (m := 19) (k := 11) rfl (by rfl) ?_) | (refine Wk.step (m := 19) (k := 11) (v := _) rfl (by rfl) (fun wv hS => by obtain ⟨s0, s1, s2, s3, s4, s5, s6, s7, s8⟩ := hS; go_simp; try with_reducible rfl) ?_)
                    try simp only [Act.put, List.getElem_toArray, List.getElem_cons_succ, List.getElem_cons_zero, List.setIfInBounds_toArray, List.set_cons_zero, List.set_cons_succ]
                    first | (refine Wk.skip (m := 18) (k := 12) rfl (by rfl) ?_) | (refine Wk.step (m := 18) (k := 12) (v := _) rfl (by rfl) (fun wv hS => by obtain ⟨s0, s1, s2, s3, s4, s5, s6, s7, s8⟩ := hS; go_simp; try with_reducible rfl) ?_)
                    try simp only [Act.put, List.getElem_toArray, List.getElem_cons_succ, List.getElem_cons_zero, List.setIfInBounds_toArray, List.set_cons_zero, List.set_cons_succ]
                    first | (refine Wk.skip (m := 17) (k := 13) rfl (by rfl) ?_) | (refine Wk.step (m := 17) (k := 13) (v := _) rfl (by rfl) (fun wv hS => by obtain ⟨s0, s1, s2, s3, s4, s5, s6, s7, s8⟩ := hS; go_simp; try with_reducible rfl) ?_)
                    try simp only [Act.put, List.getElem_toArray, List.getElem_cons_succ, List.getElem_cons_zero, List.setIfInBounds_toArray, List.set_cons_zero, List.set_cons_succ]
                    first | (refine Wk.skip (m := 16) (k := 14) rfl (by rfl) ?_) | (refine Wk.step (m := 16) (k := 14) (v := _) rfl (by rfl) (fun wv hS => by obtain ⟨s0, s1, s2, s3, s4, s5, s6, s7, s8⟩ := hS; go_simp; try with_reducible rfl) ?_)
                    try simp only [Act.put, List.getElem_toArray, List.getElem_cons_succ, List.getElem_cons_zero, List.setIfInBounds_toArray, List.set_cons_zero, List.set_cons_succ]
                    first | (refine Wk.skip (m := 15) (k := 15) rfl (by rfl) ?_) | (refine Wk.step (m := 15) (k := 15) (v := _) rfl (by rfl) (fun wv hS => by obtain ⟨s0, s1, s2, s3, s4, s5, s6, s7, s8⟩ := hS; go_simp; try with_reducible rfl) ?_)
                    try simp only [Act.put, List.getElem_toArray, List.getElem_cons_succ, List.getElem_cons_zero, List.setIfInBounds_toArray, List.set_cons_zero, List.set_cons_succ]
                    refine Wk.call (m := 14) (k := 16) (v := .bool false) _ _ rfl (by rfl) (fun wv hS => by obtain ⟨s0, s1, s2, s3, s4, s5, s6, s7, s8⟩ := hS; go_simp; first | done | exact ⟨rfl, rfl⟩ | with_reducible rfl) (fun wv hS => ?_) ?_; · obtain ⟨s0, s1, s2, s3, s4, s5, s6, s7, s8⟩ := hS; refine (specHas9 x.nd A k cc w2.heap.size (colN THop.nd zs k) wv (HI.out wv s0) (by omega)).mono ?_; rintro e w' ⟨he, rfl⟩; exact ⟨by rw [he, HC.out], ⟨s0, s1, s2, s3, s4, s5, s6, s7, s8⟩⟩
                    try simp only [Act.put, List.getElem_toArray, List.getElem_cons_succ, List.getElem_cons_zero, List.setIfInBounds_toArray, List.set_cons_zero, List.set_cons_succ]
                    first | (refine Wk.skip (m := 13) (k := 17) rfl (by rfl) ?_) | (refine Wk.step (m := 13) (k := 17) (v := _) rfl (by rfl) (fun wv hS => by obtain ⟨s0, s1, s2, s3, s4, s5, s6, s7, s8⟩ := hS; go_simp; try with_reducible rfl) ?_)
                    try simp only [Act.put, List.getElem_toArray, List.getElem_cons_succ, List.getElem_cons_zero, List.setIfInBounds_toArray, List.set_cons_zero, List.set_cons_succ]
                    first | (refine Wk.skip (m := 12) (k := 18) rfl (by rfl) ?_) | (refine Wk.step (m := 12) (k := 18) (v := _) rfl (by rfl) (fun wv hS => by obtain ⟨s0, s1, s2, s3, s4, s5, s6, s7, s8⟩ := hS; go_simp; try with_reducible rfl) ?_)
                    try simp only [Act.put, List.getElem_toArray, List.getElem_cons_succ, List.getElem_cons_zero, List.setIfInBounds_toArray, List.set_cons_zero, List.set_cons_succ]
                    first | (refine Wk.skip (m := 11) (k := 19) rfl (by rfl) ?_) | (refine Wk.step (m := 11) (k := 19) (v := _) rfl (by rfl) (fun wv hS => by obtain ⟨s0, s1, s2, s3, s4, s5, s6, s7, s8⟩ := hS; go_simp; try with_reducible rfl) ?_)
                    try simp only [Act.put, List.getElem_toArray, List.getElem_cons_succ, List.getElem_cons_zero, List.setIfInBounds_toArray, List.set_cons_zero, List.set_cons_succ]
                    first | (refine Wk.skip (m := 10) (k := 20) rfl (by rfl) ?_) | (refine Wk.step (m := 10) (k := 20) (v := _) rfl (by rfl) (fun wv hS => by obtain ⟨s0, s1, s2, s3, s4, s5, s6, s7, s8⟩ := hS; go_simp; try with_reducible rfl) ?_)
                    try simp only [Act.put, List.getElem_toArray, List.getElem_cons_succ, List.getElem_cons_zero, List.setIfInBounds_toArray, List.set_cons_zero, List.set_cons_succ]
                    first | (refine Wk.skip (m := 9) (k := 21) rfl (by rfl) ?_) | (refine Wk.step (m := 9) (k := 21) (v := _) rfl (by rfl) (fun wv hS => by obtain ⟨s0, s1, s2, s3, s4, s5, s6, s7, s8⟩ := hS; go_simp; try with_reducible rfl) ?_)
                    try simp only [Act.put, List.getElem_toArray, List.getElem_cons_succ, List.getElem_cons_zero, List.setIfInBounds_toArray, List.set_cons_zero, List.set_cons_succ]
                    first | (refine Wk.skip (m := 8) (k := 22) rfl (by rfl) ?_) | (refine Wk.step (m := 8) (k := 22) (v := _) rfl (by rfl) (fun wv hS => by obtain ⟨s0, s1, s2, s3, s4, s5, s6, s7, s8⟩ := hS; go_simp; try with_reducible rfl) ?_)
                    try simp only [Act.put, List.getElem_toArray, List.getElem_cons_succ, List.getElem_cons_zero, List.setIfInBounds_toArray, List.set_cons_zero, List.set_cons_succ]
                    first | (refine Wk.skip (m := 7) (k := 23) rfl (by rfl) ?_) | (refine Wk.step (m := 7) (k := 23) (v := _) rfl (by rfl) (fun wv hS => by obtain ⟨s0, s1, s2, s3, s4, s5, s6, s7, s8⟩ := hS; go_simp; try with_reducible rfl) ?_)
                    try simp only [Act.put, List.getElem_toArray, List.getElem_cons_succ, List.getElem_cons_zero, List.setIfInBounds_toArray, List.set_cons_zero, List.set_cons_succ]
                    first | (refine Wk.skip (m := 6) (k := 24) rfl (by rfl) ?_) | (refine Wk.step (m := 6) (k := 24) (v := _) rfl (by rfl) (fun wv hS => by obtain ⟨s0, s1, s2, s3, s4, s5, s6, s7, s8⟩ := hS; go_simp; try with_reducible rfl) ?_)
                    try simp only [Act.put, List.getElem_toArray, List.getElem_cons_succ, List.getElem_cons_zero, List.setIfInBounds_toArray, List.set_cons_zero, List.set_cons_succ]
                    first | (refine Wk.skip (m := 5) (k := 25) rfl (by rfl) ?_) | (refine Wk.step (m := 5) (k := 25) (v := _) rfl (by rfl) (fun wv hS => by obtain ⟨s0, s1, s2, s3, s4, s5, s6, s7, s8⟩ := hS; go_simp; try with_reducible rfl) ?_)
                    try simp only [Act.put, List.getElem_toArray, List.getElem_cons_succ, List.getElem_cons_zero, List.setIfInBounds_toArray, List.set_cons_zero, List.set_cons_succ]
                    first | (refine Wk.skip (m := 4) (k := 26) rfl (by rfl) ?_) | (refine Wk.step (m := 4) (k := 26) (v := _) rfl (by rfl) (fun wv hS => by obtain ⟨s0, s1, s2, s3, s4, s5, s6, s7, s8⟩ := hS; go_simp; try with_reducible rfl) ?_)
                    try simp only [Act.put, List.getElem_toArray, List.getElem_cons_succ, List.getElem_cons_zero, List.setIfInBounds_toArray, List.set_cons_zero, List.set_cons_succ]
                    first | (refine Wk.skip (m := 3) (k := 27) rfl (by rfl) ?_) | (refine Wk.step (m := 3) (k := 27) (v := _) rfl (by rfl) (fun wv hS => by obtain ⟨s0, s1, s2, s3, s4, s5, s6, s7, s8⟩ := hS; go_simp; try with_reducible rfl) ?_)
                    try simp only [Act.put, List.getElem_toArray, List.getElem_cons_succ, List.getElem_cons_zero, List.setIfInBounds_toArray, List.set_cons_zero, List.set_cons_succ]
                    first | (refine Wk.skip (m := 2) (k := 28) rfl (by rfl) ?_) | (refine Wk.step (m := 2) (k := 28) (v := _) rfl (by rfl) (fun wv hS => by obtain ⟨s0, s1, s2, s3, s4, s5, s6, s7, s8⟩ := hS; go_simp; try with_reducible rfl) ?_)
                    try simp only [Act.put, List.getElem_toArray, List.getElem_cons_succ, List.getElem_cons_zero, List.setIfInBounds_toArray, List.set_cons_zero, List.set_cons_succ]
                    first | (refine Wk.skip (m := 1) (k := 29) rfl (by rfl) ?_) | (refine Wk.step (m := 1) (k := 29) (v := _) rfl (by rfl) (fun wv hS => by obtain ⟨s0, s1, s2, s3, s4, s5, s6, s7, s8⟩ := hS; go_simp; try with_reducible rfl) ?_)
                    try simp only [Act.put, List.getElem_toArray, List.getElem_cons_succ, List.getElem_cons_zero, List.setIfInBounds_toArray, List.set_cons_zero, List.set_cons_succ]
                    first | (refine Wk.skip (m := 0) (k := 30) rfl (by rfl) ?_) | (refine Wk.step (m := 0) (k := 30) (v := _) rfl (by rfl) (fun wv hS => by obtain ⟨s0, s1, s2, s3, s4, s5, s6, s7, s8⟩ := hS; go_simp; try with_reducible rfl) ?_)
                    try simp only [Act.put, List.getElem_toArray, List.getElem_cons_succ, List.getElem_cons_zero, List.setIfInBounds_toArray, List.set_cons_zero, List.set_cons_succ]
                    refine Wk.done fun wE hE => ?_
                    obtain ⟨mE, k0, k1, j2, q0, q1, q2, q3, q4⟩ := hE
                    go_wp2_with fail
                    go_ret
                    exact ⟨retB (by rw [HR.out, ← wf_same n0 zl n1 zs n, HE.out]), MR.trans mE⟩
                  · have hLt : decide ((k : Int) < (n : Int) - 1) = false := decide_eq_false (by omega)
                    have HC := Lib.hid (show inUp (fun j => (colN THop.nd zs k).getD j 0) x.nd k = false by rw [hcong, hC])
                    go_wp2_with fail
                    refine wp_region_wk (fun w' => Mk0 (wr.alloc (Obj.cells #[Value.int .i64 x.nd, Value.int .i64 x.ing, Value.int .i64 x.eg, Value.int .i64 x.exp, Value.int .i64 x.mac] 61)) w' ∧ w'.cell? ⟨w.heap.size, 0, none⟩ = some (.slice a0 n0 c0) ∧ w'.cell? ⟨w.heap.size, 1, none⟩ = some (.slice a1 n1 c1) ∧ w'.cell? ⟨w.heap.size + 1, 2, none⟩ = some (.slice (some ⟨b, off, none⟩) n c) ∧ w'.cell? ⟨wr.heap.size, 0, none⟩ = some (.int .i64 x.nd) ∧ w'.cell? ⟨wr.heap.size, 1, none⟩ = some (.int .i64 x.ing) ∧ w'.cell? ⟨wr.heap.size, 2, none⟩ = some (.int .i64 x.eg) ∧ w'.cell? ⟨wr.heap.size, 3, none⟩ = some (.int .i64 x.exp) ∧ w'.cell? ⟨wr.heap.size, 4, none⟩ = some (.int .i64 x.mac)) (by kernel_rfl) (by kernel_rfl) (⟨Mk.drew1 _, k0, k1, j2, q0, q1, q2, q3, q4⟩) ?_
                    change Wk _ _ _ _ 31 0 _
                    first | (refine Wk.skip (m := 30) (k := 0) rfl (by rfl) ?_) | (refine Wk.step (m := 30) (k := 0) (v := _) rfl (by rfl) (fun wv hS => by obtain ⟨s0, s1, s2, s3, s4, s5, s6, s7, s8⟩ := hS; go_simp; try with_reducible rfl) ?_)
                    try simp only [Act.put, List.getElem_toArray, List.getElem_cons_zero, List.setIfInBounds_toArray, List.set_cons_zero, List.set_cons_succ]
                    refine Wk.call (m := 29) (k := 1) (v := .bool true) _ _ rfl (by rfl) (fun wv hS => by obtain ⟨s0, s1, s2, s3, s4, s5, s6, s7, s8⟩ := hS; go_simp; first | done | exact ⟨rfl, rfl⟩ | with_reducible rfl) (fun wv hS => ?_) ?_; · obtain ⟨s0, s1, s2, s3, s4, s5, s6, s7, s8⟩ := hS; refine (specVHop x.nd x.ing x.eg x.exp x.mac wv).mono ?_; rintro e w' ⟨he, mm⟩; exact ⟨by rw [he, HA.out], s0.trans mm, mm.cellAt s1, mm.cellAt s2, mm.cellAt s3, mm.cellAt s4, mm.cellAt s5, mm.cellAt s6, mm.cellAt s7, mm.cellAt s8⟩
                    try simp only [Act.put, List.getElem_toArray, List.getElem_cons_succ, List.getElem_cons_zero, List.setIfInBounds_toArray, List.set_cons_zero, List.set_cons_succ]
                    first | (refine Wk.skip (m := 28) (k := 2) rfl (by rfl) ?_) | (refine Wk.step (m := 28) (k := 2) (v := _) rfl (by rfl) (fun wv hS => by obtain ⟨s0, s1, s2, s3, s4, s5, s6, s7, s8⟩ := hS; go_simp; try with_reducible rfl) ?_)
                    try simp only [Act.put, List.getElem_toArray, List.getElem_cons_succ, List.getElem_cons_zero, List.setIfInBounds_toArray, List.set_cons_zero, List.set_cons_succ]
                    first | (refine Wk.skip (m := 27) (k := 3) rfl (by rfl) ?_) | (refine Wk.step (m := 27) (k := 3) (v := _) rfl (by rfl) (fun wv hS => by obtain ⟨s0, s1, s2, s3, s4, s5, s6, s7, s8⟩ := hS; go_simp; try with_reducible rfl) ?_)
                    try simp only [Act.put, List.getElem_toArray, List.getElem_cons_succ, List.getElem_cons_zero, List.setIfInBounds_toArray, List.set_cons_zero, List.set_cons_succ]
                    first | (refine Wk.skip (m := 26) (k := 4) rfl (by rfl) ?_) | (refine Wk.step (m := 26) (k := 4) (v := _) rfl (by rfl) (fun wv hS => by obtain ⟨s0, s1, s2, s3, s4, s5, s6, s7, s8⟩ := hS; go_simp; try with_reducible rfl) ?_)
                    try simp only [Act.put, List.getElem_toArray, List.getElem_cons_succ, List.getElem_cons_zero, List.setIfInBounds_toArray, List.set_cons_zero, List.set_cons_succ]
                    first | (refine Wk.skip (m := 25) (k := 5) rfl (by rfl) ?_) | (refine Wk.step (m := 25) (k := 5) (v := _) rfl (by rfl) (fun wv hS => by obtain ⟨s0, s1, s2, s3, s4, s5, s6, s7, s8⟩ := hS; go_simp; try with_reducible rfl) ?_)
                    try simp only [Act.put, List.getElem_toArray, List.getElem_cons_succ, List.getElem_cons_zero, List.setIfInBounds_toArray, List.set_cons_zero, List.set_cons_succ]
                    first | (refine Wk.skip (m := 24) (k := 6) rfl (by rfl) ?_) | (refine Wk.step (m := 24) (k := 6) (v := _) rfl (by rfl) (fun wv hS => by obtain ⟨s0, s1, s2, s3, s4, s5, s6, s7, s8⟩ := hS; go_simp; try with_reducible rfl) ?_)
                    try simp only [Act.put, List.getElem_toArray, List.getElem_cons_succ, List.getElem_cons_zero, List.setIfInBounds_toArray, List.set_cons_zero, List.set_cons_succ]
                    refine Wk.call (m := 23) (k := 7) (v := .bool true) _ _ rfl (by rfl) (fun wv hS => by obtain ⟨s0, s1, s2, s3, s4, s5, s6, s7, s8⟩ := hS; go_simp; first | done | exact ⟨rfl, rfl⟩ | with_reducible rfl) (fun wv hS => ?_) ?_; · obtain ⟨s0, s1, s2, s3, s4, s5, s6, s7, s8⟩ := hS; refine (specIsAS a0 a1 n0 c0 n1 c1 x.nd wv hn0).mono ?_; rintro e w' ⟨he, mm⟩; exact ⟨by rw [he, HBq.out], s0.trans mm, mm.cellAt s1, mm.cellAt s2, mm.cellAt s3, mm.cellAt s4, mm.cellAt s5, mm.cellAt s6, mm.cellAt s7, mm.cellAt s8⟩
                    try simp only [Act.put, List.getElem_toArray, List.getElem_cons_succ, List.getElem_cons_zero, List.setIfInBounds_toArray, List.set_cons_zero, List.set_cons_succ]
                    first | (refine Wk.skip (m := 22) (k := 8) rfl (by rfl) ?_) | (refine Wk.step (m := 22) (k := 8) (v := _) rfl (by rfl) (fun wv hS => by obtain ⟨s0, s1, s2, s3, s4, s5, s6, s7, s8⟩ := hS; go_simp; try with_reducible rfl) ?_)
                    try simp only [Act.put, List.getElem_toArray, List.getElem_cons_succ, List.getElem_cons_zero, List.setIfInBounds_toArray, List.set_cons_zero, List.set_cons_succ]
                    first | (refine Wk.skip (m := 21) (k := 9) rfl (by rfl) ?_) | (refine Wk.step (m := 21) (k := 9) (v := _) rfl (by rfl) (fun wv hS => by obtain ⟨s0, s1, s2, s3, s4, s5, s6, s7, s8⟩ := hS; go_simp; try with_reducible rfl) ?_)
                    try simp only [Act.put, List.getElem_toArray, List.getElem_cons_succ, List.getElem_cons_zero, List.setIfInBounds_toArray, List.set_cons_zero, List.set_cons_succ]
                    first | (refine Wk.skip (m := 20) (k := 10) rfl (by rfl) ?_) | (refine Wk.step (m := 20) (k := 10) (v := _) rfl (by rfl) (fun wv hS => by obtain ⟨s0, s1, s2, s3, s4, s5, s6, s7, s8⟩ := hS; go_simp; try with_reducible rfl) ?_)
                    try simp only [Act.put, List.getElem_toArray, List.getElem_cons_succ, List.getElem_cons_zero, List.setIfInBounds_toArray, List.set_cons_zero, List.set_cons_succ]
                    first | (refine Wk.skip (m := 19) (k := 11) rfl (by rfl) ?_) | (refine Wk.step (m := 19) (k := 11) (v := _) rfl (by rfl) (fun wv hS => by obtain ⟨s0, s1, s2, s3, s4, s5, s6, s7, s8⟩ := hS; go_simp; try with_reducible rfl) ?_)
                    try simp only [Act.put, List.getElem_toArray, List.getElem_cons_succ, List.getElem_cons_zero, List.setIfInBounds_toArray, List.set_cons_zero, List.set_cons_succ]
                    first | (refine Wk.skip (m := 18) (k := 12) rfl (by rfl) ?_) | (refine Wk.step (m := 18) (k := 12) (v := _) rfl (by rfl) (fun wv hS => by obtain ⟨s0, s1, s2, s3, s4, s5, s6, s7, s8⟩ := hS; go_simp; try with_reducible rfl) ?_)
                    try simp only [Act.put, List.getElem_toArray, List.getElem_cons_succ, List.getElem_cons_zero, List.setIfInBounds_toArray, List.set_cons_zero, List.set_cons_succ]
                    first | (refine Wk.skip (m := 17) (k := 13) rfl (by rfl) ?_) | (refine Wk.step (m := 17) (k := 13) (v := _) rfl (by rfl) (fun wv hS => by obtain ⟨s0, s1, s2, s3, s4, s5, s6, s7, s8⟩ := hS; go_simp; try with_reducible rfl) ?_)
                    try simp only [Act.put, List.getElem_toArray, List.getElem_cons_succ, List.getElem_cons_zero, List.setIfInBounds_toArray, List.set_cons_zero, List.set_cons_succ]
                    first | (refine Wk.skip (m := 16) (k := 14) rfl (by rfl) ?_) | (refine Wk.step (m := 16) (k := 14) (v := _) rfl (by rfl) (fun wv hS => by obtain ⟨s0, s1, s2, s3, s4, s5, s6, s7, s8⟩ := hS; go_simp; try with_reducible rfl) ?_)
                    try simp only [Act.put, List.getElem_toArray, List.getElem_cons_succ, List.getElem_cons_zero, List.setIfInBounds_toArray, List.set_cons_zero, List.set_cons_succ]
                    first | (refine Wk.skip (m := 15) (k := 15) rfl (by rfl) ?_) | (refine Wk.step (m := 15) (k := 15) (v := _) rfl (by rfl) (fun wv hS => by obtain ⟨s0, s1, s2, s3, s4, s5, s6, s7, s8⟩ := hS; go_simp; try with_reducible rfl) ?_)
                    try simp only [Act.put, List.getElem_toArray, List.getElem_cons_succ, List.getElem_cons_zero, List.setIfInBounds_toArray, List.set_cons_zero, List.set_cons_succ]
                    refine Wk.call (m := 14) (k := 16) (v := .bool false) _ _ rfl (by rfl) (fun wv hS => by obtain ⟨s0, s1, s2, s3, s4, s5, s6, s7, s8⟩ := hS; go_simp; first | done | exact ⟨rfl, rfl⟩ | with_reducible rfl) (fun wv hS => ?_) ?_; · obtain ⟨s0, s1, s2, s3, s4, s5, s6, s7, s8⟩ := hS; refine (specHas9 x.nd A k cc w2.heap.size (colN THop.nd zs k) wv (HI.out wv s0) (by omega)).mono ?_; rintro e w' ⟨he, rfl⟩; exact ⟨by rw [he, HC.out], ⟨s0, s1, s2, s3, s4, s5, s6, s7, s8⟩⟩
                    try simp only [Act.put, List.getElem_toArray, List.getElem_cons_succ, List.getElem_cons_zero, List.setIfInBounds_toArray, List.set_cons_zero, List.set_cons_succ]
                    first | (refine Wk.skip (m := 13) (k := 17) rfl (by rfl) ?_) | (refine Wk.step (m := 13) (k := 17) (v := _) rfl (by rfl) (fun wv hS => by obtain ⟨s0, s1, s2, s3, s4, s5, s6, s7, s8⟩ := hS; go_simp; try with_reducible rfl) ?_)
                    try simp only [Act.put, List.getElem_toArray, List.getElem_cons_succ, List.getElem_cons_zero, List.setIfInBounds_toArray, List.set_cons_zero, List.set_cons_succ]
                    first | (refine Wk.skip (m := 12) (k := 18) rfl (by rfl) ?_) | (refine Wk.step (m := 12) (k := 18) (v := _) rfl (by rfl) (fun wv hS => by obtain ⟨s0, s1, s2, s3, s4, s5, s6, s7, s8⟩ := hS; go_simp; try with_reducible rfl) ?_)
                    try simp only [Act.put, List.getElem_toArray, List.getElem_cons_succ, List.getElem_cons_zero, List.setIfInBounds_toArray, List.set_cons_zero, List.set_cons_succ]
                    first | (refine Wk.skip (m := 11) (k := 19) rfl (by rfl) ?_) | (refine Wk.step (m := 11) (k := 19) (v := _) rfl (by rfl) (fun wv hS => by obtain ⟨s0, s1, s2, s3, s4, s5, s6, s7, s8⟩ := hS; go_simp; try with_reducible rfl) ?_)
                    try simp only [Act.put, List.getElem_toArray, List.getElem_cons_succ, List.getElem_cons_zero, List.setIfInBounds_toArray, List.set_cons_zero, List.set_cons_succ]
                    first | (refine Wk.skip (m := 10) (k := 20) rfl (by rfl) ?_) | (refine Wk.step (m := 10) (k := 20) (v := _) rfl (by rfl) (fun wv hS => by obtain ⟨s0, s1, s2, s3, s4, s5, s6, s7, s8⟩ := hS; go_simp; try with_reducible rfl) ?_)
                    try simp only [Act.put, List.getElem_toArray, List.getElem_cons_succ, List.getElem_cons_zero, List.setIfInBounds_toArray, List.set_cons_zero, List.set_cons_succ]
                    first | (refine Wk.skip (m := 9) (k := 21) rfl (by rfl) ?_) | (refine Wk.step (m := 9) (k := 21) (v := _) rfl (by rfl) (fun wv hS => by obtain ⟨s0, s1, s2, s3, s4, s5, s6, s7, s8⟩ := hS; go_simp; try with_reducible rfl) ?_)
                    try simp only [Act.put, List.getElem_toArray, List.getElem_cons_succ, List.getElem_cons_zero, List.setIfInBounds_toArray, List.set_cons_zero, List.set_cons_succ]
                    first | (refine Wk.skip (m := 8) (k := 22) rfl (by rfl) ?_) | (refine Wk.step (m := 8) (k := 22) (v := _) rfl (by rfl) (fun wv hS => by obtain ⟨s0, s1, s2, s3, s4, s5, s6, s7, s8⟩ := hS; go_simp; try with_reducible rfl) ?_)
                    try simp only [Act.put, List.getElem_toArray, List.getElem_cons_succ, List.getElem_cons_zero, List.setIfInBounds_toArray, List.set_cons_zero, List.set_cons_succ]
                    first | (refine Wk.skip (m := 7) (k := 23) rfl (by rfl) ?_) | (refine Wk.step (m := 7) (k := 23) (v := _) rfl (by rfl) (fun wv hS => by obtain ⟨s0, s1, s2, s3, s4, s5, s6, s7, s8⟩ := hS; go_simp; try with_reducible rfl) ?_)
                    try simp only [Act.put, List.getElem_toArray, List.getElem_cons_succ, List.getElem_cons_zero, List.setIfInBounds_toArray, List.set_cons_zero, List.set_cons_succ]
                    first | (refine Wk.skip (m := 6) (k := 24) rfl (by rfl) ?_) | (refine Wk.step (m := 6) (k := 24) (v := _) rfl (by rfl) (fun wv hS => by obtain ⟨s0, s1, s2, s3, s4, s5, s6, s7, s8⟩ := hS; go_simp; try with_reducible rfl) ?_)
                    try simp only [Act.put, List.getElem_toArray, List.getElem_cons_succ, List.getElem_cons_zero, List.setIfInBounds_toArray, List.set_cons_zero, List.set_cons_succ]
                    first | (refine Wk.skip (m := 5) (k := 25) rfl (by rfl) ?_) | (refine Wk.step (m := 5) (k := 25) (v := _) rfl (by rfl) (fun wv hS => by obtain ⟨s0, s1, s2, s3, s4, s5, s6, s7, s8⟩ := hS; go_simp; try with_reducible rfl) ?_)
                    try simp only [Act.put, List.getElem_toArray, List.getElem_cons_succ, List.getElem_cons_zero, List.setIfInBounds_toArray, List.set_cons_zero, List.set_cons_succ]
                    first | (refine Wk.skip (m := 4) (k := 26) rfl (by rfl) ?_) | (refine Wk.step (m := 4) (k := 26) (v := _) rfl (by rfl) (fun wv hS => by obtain ⟨s0, s1, s2, s3, s4, s5, s6, s7, s8⟩ := hS; go_simp; try with_reducible rfl) ?_)
                    try simp only [Act.put, List.getElem_toArray, List.getElem_cons_succ, List.getElem_cons_zero, List.setIfInBounds_toArray, List.set_cons_zero, List.set_cons_succ]
                    first | (refine Wk.skip (m := 3) (k := 27) rfl (by rfl) ?_) | (refine Wk.step (m := 3) (k := 27) (v := _) rfl (by rfl) (fun wv hS => by obtain ⟨s0, s1, s2, s3, s4, s5, s6, s7, s8⟩ := hS; go_simp; try with_reducible rfl) ?_)
                    try simp only [Act.put, List.getElem_toArray, List.getElem_cons_succ, List.getElem_cons_zero, List.setIfInBounds_toArray, List.set_cons_zero, List.set_cons_succ]
                    first | (refine Wk.skip (m := 2) (k := 28) rfl (by rfl) ?_) | (refine Wk.step (m := 2) (k := 28) (v := _) rfl (by rfl) (fun wv hS => by obtain ⟨s0, s1, s2, s3, s4, s5, s6, s7, s8⟩ := hS; go_simp; try with_reducible rfl) ?_)
                    try simp only [Act.put, List.getElem_toArray, List.getElem_cons_succ, List.getElem_cons_zero, List.setIfInBounds_toArray, List.set_cons_zero, List.set_cons_succ]
                    first | (refine Wk.skip (m := 1) (k := 29) rfl (by rfl) ?_) | (refine Wk.step (m := 1) (k := 29) (v := _) rfl (by rfl) (fun wv hS => by obtain ⟨s0, s1, s2, s3, s4, s5, s6, s7, s8⟩ := hS; go_simp; try with_reducible rfl) ?_)
                    try simp only [Act.put, List.getElem_toArray, List.getElem_cons_succ, List.getElem_cons_zero, List.setIfInBounds_toArray, List.set_cons_zero, List.set_cons_succ]
                    first | (refine Wk.skip (m := 0) (k := 30) rfl (by rfl) ?_) | (refine Wk.step (m := 0) (k := 30) (v := _) rfl (by rfl) (fun wv hS => by obtain ⟨s0, s1, s2, s3, s4, s5, s6, s7, s8⟩ := hS; go_simp; try with_reducible rfl) ?_)
                    try simp only [Act.put, List.getElem_toArray, List.getElem_cons_succ, List.getElem_cons_zero, List.setIfInBounds_toArray, List.set_cons_zero, List.set_cons_succ]
                    refine Wk.done fun wE hE => ?_
                    obtain ⟨mE, k0, k1, j2, q0, q1, q2, q3, q4⟩ := hE
                    replace MR := MR.trans mE
                    replace hMX := hMX.trans mE
                    rcases Nat.eq_zero_or_pos k with hk0 | hk0
                    · have hkb : (k == 0) = true := by simp [hk0]
                      have hk1 : decide ((0 : Int) < (k : Int)) = false := decide_eq_false (by omega)
                      have hk1n : decide (0 < k) = false := decide_eq_false (by omega)
                      have HE := Lib.hid (allN_go hS.out (show (wfS n0 zl n1 zs n) k = true by unfold wfS; rw [← hx.out, hA, hB2, hC, hD, decide_eq_false hL, hkb]; rfl))
                      clear hC hB2 hA hk0 hkb j2w
                      go_wp2_with fail
                      go_roundw
                      case rel => exact ⟨rfl, k + 1, by omega, by go_num, HE.out, hMX⟩
                      case measure => simp [intOf]; omega
                    · obtain ⟨q, hq⟩ : ∃ q, Hid (k = q + 1) := ⟨k - 1, by show k = k - 1 + 1; omega⟩
                      obtain ⟨b2, off2, y2, eb2, hb3, hy2, f0, f1, f2, f3, f4⟩ := HasHop.at _ _ _ _ _ _ (h.mk MR hB' (.inr (Nat.le_refl _))) (show q < n by have := hq.out; omega)
                      simp only [Option.some.injEq, Addr.mk.injEq, and_true] at eb2
                      obtain ⟨rfl, rfl⟩ := eb2
                      clear f1 f3 f4
                      have i4 : (0 : Int) ≤ (q : Int) := by omega
                      have i5 : (q : Int) < (n : Int) := by have := hq.out; omega
                      have hw3 : IntKind.i64.wrap ((k : Int) - 1) = (q : Int) := by rw [IntKind.wrap_i64]; have := hq.out; omega
                      have hk1 : decide ((0 : Int) < (k : Int)) = true := decide_eq_true (by omega)
                      have hk1n : decide (0 < k) = true := decide_eq_true (by omega)
                      have hyq := Lib.hid (show y2 = zs.getD (k - 1) default by rw [hy2.out, hq.out, Nat.add_sub_cancel])
                      have hbE := World.block_lt_of_cell? _ _ q0
                      simp only at hbE
                      have hkb : (k == 0) = false := by simp; omega
                      cases hR : remB zl n1 y2 x
                      · have HE := Lib.hid (allN_stop (p := wfS n0 zl n1 zs n) (n := n) (show (wfS n0 zl n1 zs n) k = false by unfold wfS; rw [← hx.out, ← hyq.out, hA, hB2, hC, hD, decide_eq_false hL, hkb, hR]; rfl) hlt)
                        go_wp2_with fail
                        refine wp_region_wk (fun w' => Mk0 wE w' ∧ w'.cell? ⟨w.heap.size, 0, none⟩ = some (.slice a0 n0 c0) ∧ w'.cell? ⟨w.heap.size, 1, none⟩ = some (.slice a1 n1 c1) ∧ w'.cell? ⟨w.heap.size + 1, 2, none⟩ = some (.slice (some ⟨b, off, none⟩) n c) ∧ w'.cell? ⟨wr.heap.size, 0, none⟩ = some (.int .i64 x.nd) ∧ w'.cell? ⟨wr.heap.size, 1, none⟩ = some (.int .i64 x.ing) ∧ w'.cell? ⟨wr.heap.size, 2, none⟩ = some (.int .i64 x.eg) ∧ w'.cell? ⟨wr.heap.size, 3, none⟩ = some (.int .i64 x.exp) ∧ w'.cell? ⟨wr.heap.size, 4, none⟩ = some (.int .i64 x.mac) ∧ w'.cell? ⟨b, off + q * 5, none⟩ = some (.int .i64 y2.nd) ∧ w'.cell? ⟨b, off + q * 5 + 2, none⟩ = some (.int .i64 y2.eg)) (by kernel_rfl) (by kernel_rfl) (⟨Mk.drew1 _, k0, k1, j2, q0, q1, q2, q3, q4, f0, f2⟩) ?_
                        change Wk _ _ _ _ 21 0 _
                        first | (refine Wk.skip (m := 20) (k := 0) rfl (by rfl) ?_) | (refine Wk.step (m := 20) (k := 0) (v := _) rfl (by rfl) (fun wv hS => by obtain ⟨s0, s1, s2, s3, s4, s5, s6, s7, s8, s9, s10⟩ := hS; go_simp; try with_reducible rfl) ?_)
                        try simp only [Act.put, List.getElem_toArray, List.getElem_cons_zero, List.setIfInBounds_toArray, List.set_cons_zero, List.set_cons_succ]
                        first | (refine Wk.skip (m := 19) (k := 1) rfl (by rfl) ?_) | (refine Wk.step (m := 19) (k := 1) (v := _) rfl (by rfl) (fun wv hS => by obtain ⟨s0, s1, s2, s3, s4, s5, s6, s7, s8, s9, s10⟩ := hS; go_simp; try with_reducible rfl) ?_)
                        try simp only [Act.put, List.getElem_toArray, List.getElem_cons_succ, List.getElem_cons_zero, List.setIfInBounds_toArray, List.set_cons_zero, List.set_cons_succ]
                        first | (refine Wk.skip (m := 18) (k := 2) rfl (by rfl) ?_) | (refine Wk.step (m := 18) (k := 2) (v := _) rfl (by rfl) (fun wv hS => by obtain ⟨s0, s1, s2, s3, s4, s5, s6, s7, s8, s9, s10⟩ := hS; go_simp; try with_reducible rfl) ?_)
                        try simp only [Act.put, List.getElem_toArray, List.getElem_cons_succ, List.getElem_cons_zero, List.setIfInBounds_toArray, List.set_cons_zero, List.set_cons_succ]
                        first | (refine Wk.skip (m := 17) (k := 3) rfl (by rfl) ?_) | (refine Wk.step (m := 17) (k := 3) (v := _) rfl (by rfl) (fun wv hS => by obtain ⟨s0, s1, s2, s3, s4, s5, s6, s7, s8, s9, s10⟩ := hS; go_simp; try with_reducible rfl) ?_)
                        try simp only [Act.put, List.getElem_toArray, List.getElem_cons_succ, List.getElem_cons_zero, List.setIfInBounds_toArray, List.set_cons_zero, List.set_cons_succ]
                        first | (refine Wk.skip (m := 16) (k := 4) rfl (by rfl) ?_) | (refine Wk.step (m := 16) (k := 4) (v := _) rfl (by rfl) (fun wv hS => by obtain ⟨s0, s1, s2, s3, s4, s5, s6, s7, s8, s9, s10⟩ := hS; go_simp; try with_reducible rfl) ?_)
                        try simp only [Act.put, List.getElem_toArray, List.getElem_cons_succ, List.getElem_cons_zero, List.setIfInBounds_toArray, List.set_cons_zero, List.set_cons_succ]
                        first | (refine Wk.skip (m := 15) (k := 5) rfl (by rfl) ?_) | (refine Wk.step (m := 15) (k := 5) (v := _) rfl (by rfl) (fun wv hS => by obtain ⟨s0, s1, s2, s3, s4, s5, s6, s7, s8, s9, s10⟩ := hS; go_simp; try with_reducible rfl) ?_)
                        try simp only [Act.put, List.getElem_toArray, List.getElem_cons_succ, List.getElem_cons_zero, List.setIfInBounds_toArray, List.set_cons_zero, List.set_cons_succ]
                        first | (refine Wk.skip (m := 14) (k := 6) rfl (by rfl) ?_) | (refine Wk.step (m := 14) (k := 6) (v := _) rfl (by rfl) (fun wv hS => by obtain ⟨s0, s1, s2, s3, s4, s5, s6, s7, s8, s9, s10⟩ := hS; go_simp; try with_reducible rfl) ?_)
                        try simp only [Act.put, List.getElem_toArray, List.getElem_cons_succ, List.getElem_cons_zero, List.setIfInBounds_toArray, List.set_cons_zero, List.set_cons_succ]
                        first | (refine Wk.skip (m := 13) (k := 7) rfl (by rfl) ?_) | (refine Wk.step (m := 13) (k := 7) (v := _) rfl (by rfl) (fun wv hS => by obtain ⟨s0, s1, s2, s3, s4, s5, s6, s7, s8, s9, s10⟩ := hS; go_simp; try with_reducible rfl) ?_)
                        try simp only [Act.put, List.getElem_toArray, List.getElem_cons_succ, List.getElem_cons_zero, List.setIfInBounds_toArray, List.set_cons_zero, List.set_cons_succ]
                        first | (refine Wk.skip (m := 12) (k := 8) rfl (by rfl) ?_) | (refine Wk.step (m := 12) (k := 8) (v := _) rfl (by rfl) (fun wv hS => by obtain ⟨s0, s1, s2, s3, s4, s5, s6, s7, s8, s9, s10⟩ := hS; go_simp; try with_reducible rfl) ?_)
                        try simp only [Act.put, List.getElem_toArray, List.getElem_cons_succ, List.getElem_cons_zero, List.setIfInBounds_toArray, List.set_cons_zero, List.set_cons_succ]
                        first | (refine Wk.skip (m := 11) (k := 9) rfl (by rfl) ?_) | (refine Wk.step (m := 11) (k := 9) (v := _) rfl (by rfl) (fun wv hS => by obtain ⟨s0, s1, s2, s3, s4, s5, s6, s7, s8, s9, s10⟩ := hS; go_simp; try with_reducible rfl) ?_)
                        try simp only [Act.put, List.getElem_toArray, List.getElem_cons_succ, List.getElem_cons_zero, List.setIfInBounds_toArray, List.set_cons_zero, List.set_cons_succ]
                        first | (refine Wk.skip (m := 10) (k := 10) rfl (by rfl) ?_) | (refine Wk.step (m := 10) (k := 10) (v := _) rfl (by rfl) (fun wv hS => by obtain ⟨s0, s1, s2, s3, s4, s5, s6, s7, s8, s9, s10⟩ := hS; go_simp; try with_reducible rfl) ?_)
                        try simp only [Act.put, List.getElem_toArray, List.getElem_cons_succ, List.getElem_cons_zero, List.setIfInBounds_toArray, List.set_cons_zero, List.set_cons_succ]
                        first | (refine Wk.skip (m := 9) (k := 11) rfl (by rfl) ?_) | (refine Wk.step (m := 9) (k := 11) (v := _) rfl (by rfl) (fun wv hS => by obtain ⟨s0, s1, s2, s3, s4, s5, s6, s7, s8, s9, s10⟩ := hS; go_simp; try with_reducible rfl) ?_)
                        try simp only [Act.put, List.getElem_toArray, List.getElem_cons_succ, List.getElem_cons_zero, List.setIfInBounds_toArray, List.set_cons_zero, List.set_cons_succ]
                        first | (refine Wk.skip (m := 8) (k := 12) rfl (by rfl) ?_) | (refine Wk.step (m := 8) (k := 12) (v := _) rfl (by rfl) (fun wv hS => by obtain ⟨s0, s1, s2, s3, s4, s5, s6, s7, s8, s9, s10⟩ := hS; go_simp; try with_reducible rfl) ?_)
                        try simp only [Act.put, List.getElem_toArray, List.getElem_cons_succ, List.getElem_cons_zero, List.setIfInBounds_toArray, List.set_cons_zero, List.set_cons_succ]
                        first | (refine Wk.skip (m := 7) (k := 13) rfl (by rfl) ?_) | (refine Wk.step (m := 7) (k := 13) (v := _) rfl (by rfl) (fun wv hS => by obtain ⟨s0, s1, s2, s3, s4, s5, s6, s7, s8, s9, s10⟩ := hS; go_simp; try with_reducible rfl) ?_)
                        try simp only [Act.put, List.getElem_toArray, List.getElem_cons_succ, List.getElem_cons_zero, List.setIfInBounds_toArray, List.set_cons_zero, List.set_cons_succ]
                        first | (refine Wk.skip (m := 6) (k := 14) rfl (by rfl) ?_) | (refine Wk.step (m := 6) (k := 14) (v := _) rfl (by rfl) (fun wv hS => by obtain ⟨s0, s1, s2, s3, s4, s5, s6, s7, s8, s9, s10⟩ := hS; go_simp; try with_reducible rfl) ?_)
                        try simp only [Act.put, List.getElem_toArray, List.getElem_cons_succ, List.getElem_cons_zero, List.setIfInBounds_toArray, List.set_cons_zero, List.set_cons_succ]
                        refine Wk.call (m := 5) (k := 15) (v := .tuple #[.int .i64 (remote zl y2.nd y2.eg n1).1, .int .i64 (remote zl y2.nd y2.eg n1).2]) _ _ rfl (by rfl) (fun wv hS => by obtain ⟨s0, s1, s2, s3, s4, s5, s6, s7, s8, s9, s10⟩ := hS; go_simp; first | done | exact ⟨rfl, rfl⟩ | with_reducible rfl) (fun wv hS => ?_) ?_; · obtain ⟨s0, s1, s2, s3, s4, s5, s6, s7, s8, s9, s10⟩ := hS; refine (specRemote a0 a1 n0 c0 n1 c1 B zl y2.nd y2.eg wv (hl.mk (MR.trans s0) hB (.inr (Nat.le_refl _))) (Nat.le_trans hB (MR.trans s0).size) hn1).mono ?_; rintro e w' ⟨rfl, mm⟩; exact ⟨rfl, s0.trans mm, mm.cellAt s1, mm.cellAt s2, mm.cellAt s3, mm.cellAt s4, mm.cellAt s5, mm.cellAt s6, mm.cellAt s7, mm.cellAt s8, mm.cellAt s9, mm.cellAt s10⟩
                        try simp only [Act.put, List.getElem_toArray, List.getElem_cons_succ, List.getElem_cons_zero, List.setIfInBounds_toArray, List.set_cons_zero, List.set_cons_succ]
                        first | (refine Wk.skip (m := 4) (k := 16) rfl (by rfl) ?_) | (refine Wk.step (m := 4) (k := 16) (v := _) rfl (by rfl) (fun wv hS => by obtain ⟨s0, s1, s2, s3, s4, s5, s6, s7, s8, s9, s10⟩ := hS; go_simp; try with_reducible rfl) ?_)
                        try simp only [Act.put, List.getElem_toArray, List.getElem_cons_succ, List.getElem_cons_zero, List.setIfInBounds_toArray, List.set_cons_zero, List.set_cons_succ]
                        first | (refine Wk.skip (m := 3) (k := 17) rfl (by rfl) ?_) | (refine Wk.step (m := 3) (k := 17) (v := _) rfl (by rfl) (fun wv hS => by obtain ⟨s0, s1, s2, s3, s4, s5, s6, s7, s8, s9, s10⟩ := hS; go_simp; try with_reducible rfl) ?_)
                        try simp only [Act.put, List.getElem_toArray, List.getElem_cons_succ, List.getElem_cons_zero, List.setIfInBounds_toArray, List.set_cons_zero, List.set_cons_succ]
                        first | (refine Wk.skip (m := 2) (k := 18) rfl (by rfl) ?_) | (refine Wk.step (m := 2) (k := 18) (v := _) rfl (by rfl) (fun wv hS => by obtain ⟨s0, s1, s2, s3, s4, s5, s6, s7, s8, s9, s10⟩ := hS; go_simp; try with_reducible rfl) ?_)
                        try simp only [Act.put, List.getElem_toArray, List.getElem_cons_succ, List.getElem_cons_zero, List.setIfInBounds_toArray, List.set_cons_zero, List.set_cons_succ]
                        first | (refine Wk.skip (m := 1) (k := 19) rfl (by rfl) ?_) | (refine Wk.step (m := 1) (k := 19) (v := _) rfl (by rfl) (fun wv hS => by obtain ⟨s0, s1, s2, s3, s4, s5, s6, s7, s8, s9, s10⟩ := hS; go_simp; try with_reducible rfl) ?_)
                        try simp only [Act.put, List.getElem_toArray, List.getElem_cons_succ, List.getElem_cons_zero, List.setIfInBounds_toArray, List.set_cons_zero, List.set_cons_succ]
                        first | (refine Wk.skip (m := 0) (k := 20) rfl (by rfl) ?_) | (refine Wk.step (m := 0) (k := 20) (v := _) rfl (by rfl) (fun wv hS => by obtain ⟨s0, s1, s2, s3, s4, s5, s6, s7, s8, s9, s10⟩ := hS; go_simp; try with_reducible rfl) ?_)
                        try simp only [Act.put, List.getElem_toArray, List.getElem_cons_succ, List.getElem_cons_zero, List.setIfInBounds_toArray, List.set_cons_zero, List.set_cons_succ]
                        refine Wk.done fun wE hE => ?_
                        obtain ⟨mE, k0, k1, j2, q0, q1, q2, q3, q4, f0, f2⟩ := hE
                        have MZ := MR.trans mE
                        have hMZ := hMX.trans mE
                        cases r1 : ((remote zl y2.nd y2.eg n1).1 == x.nd)
                        · have r1' : ((remote zl y2.nd y2.eg n1).1 != x.nd) = true := by simp only [bne, r1]; rfl
                          clear hR hC hB2 hA r1
                          go_wp2_with fail
                          go_ret
                          exact ⟨retB (by rw [HR.out, ← wf_same n0 zl n1 zs n, HE.out]), MZ⟩
                        · have r1' : ((remote zl y2.nd y2.eg n1).1 != x.nd) = false := by simp only [bne, r1]; rfl
                          have r2' : ((remote zl y2.nd y2.eg n1).2 != x.ing) = true := by unfold remB at hR; rw [r1] at hR; simp only [bne]; simpa using hR
                          clear hR hC hB2 hA r1
                          go_wp2_with fail
                          go_ret
                          exact ⟨retB (by rw [HR.out, ← wf_same n0 zl n1 zs n, HE.out]), MZ⟩
                      · have HE := Lib.hid (allN_go hS.out (show (wfS n0 zl n1 zs n) k = true by unfold wfS; rw [← hx.out, ← hyq.out, hA, hB2, hC, hD, decide_eq_false hL, hkb, hR]; rfl))
                        go_wp2_with fail
                        refine wp_region_wk (fun w' => Mk0 wE w' ∧ w'.cell? ⟨w.heap.size, 0, none⟩ = some (.slice a0 n0 c0) ∧ w'.cell? ⟨w.heap.size, 1, none⟩ = some (.slice a1 n1 c1) ∧ w'.cell? ⟨w.heap.size + 1, 2, none⟩ = some (.slice (some ⟨b, off, none⟩) n c) ∧ w'.cell? ⟨wr.heap.size, 0, none⟩ = some (.int .i64 x.nd) ∧ w'.cell? ⟨wr.heap.size, 1, none⟩ = some (.int .i64 x.ing) ∧ w'.cell? ⟨wr.heap.size, 2, none⟩ = some (.int .i64 x.eg) ∧ w'.cell? ⟨wr.heap.size, 3, none⟩ = some (.int .i64 x.exp) ∧ w'.cell? ⟨wr.heap.size, 4, none⟩ = some (.int .i64 x.mac) ∧ w'.cell? ⟨b, off + q * 5, none⟩ = some (.int .i64 y2.nd) ∧ w'.cell? ⟨b, off + q * 5 + 2, none⟩ = some (.int .i64 y2.eg)) (by kernel_rfl) (by kernel_rfl) (⟨Mk.drew1 _, k0, k1, j2, q0, q1, q2, q3, q4, f0, f2⟩) ?_
                        change Wk _ _ _ _ 21 0 _
                        first | (refine Wk.skip (m := 20) (k := 0) rfl (by rfl) ?_) | (refine Wk.step (m := 20) (k := 0) (v := _) rfl (by rfl) (fun wv hS => by obtain ⟨s0, s1, s2, s3, s4, s5, s6, s7, s8, s9, s10⟩ := hS; go_simp; try with_reducible rfl) ?_)
                        try simp only [Act.put, List.getElem_toArray, List.getElem_cons_zero, List.setIfInBounds_toArray, List.set_cons_zero, List.set_cons_succ]
                        first | (refine Wk.skip (m := 19) (k := 1) rfl (by rfl) ?_) | (refine Wk.step (m := 19) (k := 1) (v := _) rfl (by rfl) (fun wv hS => by obtain ⟨s0, s1, s2, s3, s4, s5, s6, s7, s8, s9, s10⟩ := hS; go_simp; try with_reducible rfl) ?_)
                        try simp only [Act.put, List.getElem_toArray, List.getElem_cons_succ, List.getElem_cons_zero, List.setIfInBounds_toArray, List.set_cons_zero, List.set_cons_succ]
                        first | (refine Wk.skip (m := 18) (k := 2) rfl (by rfl) ?_) | (refine Wk.step (m := 18) (k := 2) (v := _) rfl (by rfl) (fun wv hS => by obtain ⟨s0, s1, s2, s3, s4, s5, s6, s7, s8, s9, s10⟩ := hS; go_simp; try with_reducible rfl) ?_)
                        try simp only [Act.put, List.getElem_toArray, List.getElem_cons_succ, List.getElem_cons_zero, List.setIfInBounds_toArray, List.set_cons_zero, List.set_cons_succ]
                        first | (refine Wk.skip (m := 17) (k := 3) rfl (by rfl) ?_) | (refine Wk.step (m := 17) (k := 3) (v := _) rfl (by rfl) (fun wv hS => by obtain ⟨s0, s1, s2, s3, s4, s5, s6, s7, s8, s9, s10⟩ := hS; go_simp; try with_reducible rfl) ?_)
                        try simp only [Act.put, List.getElem_toArray, List.getElem_cons_succ, List.getElem_cons_zero, List.setIfInBounds_toArray, List.set_cons_zero, List.set_cons_succ]
                        first | (refine Wk.skip (m := 16) (k := 4) rfl (by rfl) ?_) | (refine Wk.step (m := 16) (k := 4) (v := _) rfl (by rfl) (fun wv hS => by obtain ⟨s0, s1, s2, s3, s4, s5, s6, s7, s8, s9, s10⟩ := hS; go_simp; try with_reducible rfl) ?_)
                        try simp only [Act.put, List.getElem_toArray, List.getElem_cons_succ, List.getElem_cons_zero, List.setIfInBounds_toArray, List.set_cons_zero, List.set_cons_succ]
                        first | (refine Wk.skip (m := 15) (k := 5) rfl (by rfl) ?_) | (refine Wk.step (m := 15) (k := 5) (v := _) rfl (by rfl) (fun wv hS => by obtain ⟨s0, s1, s2, s3, s4, s5, s6, s7, s8, s9, s10⟩ := hS; go_simp; try with_reducible rfl) ?_)
                        try simp only [Act.put, List.getElem_toArray, List.getElem_cons_succ, List.getElem_cons_zero, List.setIfInBounds_toArray, List.set_cons_zero, List.set_cons_succ]
                        first | (refine Wk.skip (m := 14) (k := 6) rfl (by rfl) ?_) | (refine Wk.step (m := 14) (k := 6) (v := _) rfl (by rfl) (fun wv hS => by obtain ⟨s0, s1, s2, s3, s4, s5, s6, s7, s8, s9, s10⟩ := hS; go_simp; try with_reducible rfl) ?_)
                        try simp only [Act.put, List.getElem_toArray, List.getElem_cons_succ, List.getElem_cons_zero, List.setIfInBounds_toArray, List.set_cons_zero, List.set_cons_succ]
                        first | (refine Wk.skip (m := 13) (k := 7) rfl (by rfl) ?_) | (refine Wk.step (m := 13) (k := 7) (v := _) rfl (by rfl) (fun wv hS => by obtain ⟨s0, s1, s2, s3, s4, s5, s6, s7, s8, s9, s10⟩ := hS; go_simp; try with_reducible rfl) ?_)
                        try simp only [Act.put, List.getElem_toArray, List.getElem_cons_succ, List.getElem_cons_zero, List.setIfInBounds_toArray, List.set_cons_zero, List.set_cons_succ]
                        first | (refine Wk.skip (m := 12) (k := 8) rfl (by rfl) ?_) | (refine Wk.step (m := 12) (k := 8) (v := _) rfl (by rfl) (fun wv hS => by obtain ⟨s0, s1, s2, s3, s4, s5, s6, s7, s8, s9, s10⟩ := hS; go_simp; try with_reducible rfl) ?_)
                        try simp only [Act.put, List.getElem_toArray, List.getElem_cons_succ, List.getElem_cons_zero, List.setIfInBounds_toArray, List.set_cons_zero, List.set_cons_succ]
                        first | (refine Wk.skip (m := 11) (k := 9) rfl (by rfl) ?_) | (refine Wk.step (m := 11) (k := 9) (v := _) rfl (by rfl) (fun wv hS => by obtain ⟨s0, s1, s2, s3, s4, s5, s6, s7, s8, s9, s10⟩ := hS; go_simp; try with_reducible rfl) ?_)
                        try simp only [Act.put, List.getElem_toArray, List.getElem_cons_succ, List.getElem_cons_zero, List.setIfInBounds_toArray, List.set_cons_zero, List.set_cons_succ]
                        first | (refine Wk.skip (m := 10) (k := 10) rfl (by rfl) ?_) | (refine Wk.step (m := 10) (k := 10) (v := _) rfl (by rfl) (fun wv hS => by obtain ⟨s0, s1, s2, s3, s4, s5, s6, s7, s8, s9, s10⟩ := hS; go_simp; try with_reducible rfl) ?_)
                        try simp only [Act.put, List.getElem_toArray, List.getElem_cons_succ, List.getElem_cons_zero, List.setIfInBounds_toArray, List.set_cons_zero, List.set_cons_succ]
                        first | (refine Wk.skip (m := 9) (k := 11) rfl (by rfl) ?_) | (refine Wk.step (m := 9) (k := 11) (v := _) rfl (by rfl) (fun wv hS => by obtain ⟨s0, s1, s2, s3, s4, s5, s6, s7, s8, s9, s10⟩ := hS; go_simp; try with_reducible rfl) ?_)
                        try simp only [Act.put, List.getElem_toArray, List.getElem_cons_succ, List.getElem_cons_zero, List.setIfInBounds_toArray, List.set_cons_zero, List.set_cons_succ]
                        first | (refine Wk.skip (m := 8) (k := 12) rfl (by rfl) ?_) | (refine Wk.step (m := 8) (k := 12) (v := _) rfl (by rfl) (fun wv hS => by obtain ⟨s0, s1, s2, s3, s4, s5, s6, s7, s8, s9, s10⟩ := hS; go_simp; try with_reducible rfl) ?_)
                        try simp only [Act.put, List.getElem_toArray, List.getElem_cons_succ, List.getElem_cons_zero, List.setIfInBounds_toArray, List.set_cons_zero, List.set_cons_succ]
                        first | (refine Wk.skip (m := 7) (k := 13) rfl (by rfl) ?_) | (refine Wk.step (m := 7) (k := 13) (v := _) rfl (by rfl) (fun wv hS => by obtain ⟨s0, s1, s2, s3, s4, s5, s6, s7, s8, s9, s10⟩ := hS; go_simp; try with_reducible rfl) ?_)
                        try simp only [Act.put, List.getElem_toArray, List.getElem_cons_succ, List.getElem_cons_zero, List.setIfInBounds_toArray, List.set_cons_zero, List.set_cons_succ]
                        first | (refine Wk.skip (m := 6) (k := 14) rfl (by rfl) ?_) | (refine Wk.step (m := 6) (k := 14) (v := _) rfl (by rfl) (fun wv hS => by obtain ⟨s0, s1, s2, s3, s4, s5, s6, s7, s8, s9, s10⟩ := hS; go_simp; try with_reducible rfl) ?_)
                        try simp only [Act.put, List.getElem_toArray, List.getElem_cons_succ, List.getElem_cons_zero, List.setIfInBounds_toArray, List.set_cons_zero, List.set_cons_succ]
                        refine Wk.call (m := 5) (k := 15) (v := .tuple #[.int .i64 (remote zl y2.nd y2.eg n1).1, .int .i64 (remote zl y2.nd y2.eg n1).2]) _ _ rfl (by rfl) (fun wv hS => by obtain ⟨s0, s1, s2, s3, s4, s5, s6, s7, s8, s9, s10⟩ := hS; go_simp; first | done | exact ⟨rfl, rfl⟩ | with_reducible rfl) (fun wv hS => ?_) ?_; · obtain ⟨s0, s1, s2, s3, s4, s5, s6, s7, s8, s9, s10⟩ := hS; refine (specRemote a0 a1 n0 c0 n1 c1 B zl y2.nd y2.eg wv (hl.mk (MR.trans s0) hB (.inr (Nat.le_refl _))) (Nat.le_trans hB (MR.trans s0).size) hn1).mono ?_; rintro e w' ⟨rfl, mm⟩; exact ⟨rfl, s0.trans mm, mm.cellAt s1, mm.cellAt s2, mm.cellAt s3, mm.cellAt s4, mm.cellAt s5, mm.cellAt s6, mm.cellAt s7, mm.cellAt s8, mm.cellAt s9, mm.cellAt s10⟩
                        try simp only [Act.put, List.getElem_toArray, List.getElem_cons_succ, List.getElem_cons_zero, List.setIfInBounds_toArray, List.set_cons_zero, List.set_cons_succ]
                        first | (refine Wk.skip (m := 4) (k := 16) rfl (by rfl) ?_) | (refine Wk.step (m := 4) (k := 16) (v := _) rfl (by rfl) (fun wv hS => by obtain ⟨s0, s1, s2, s3, s4, s5, s6, s7, s8, s9, s10⟩ := hS; go_simp; try with_reducible rfl) ?_)
                        try simp only [Act.put, List.getElem_toArray, List.getElem_cons_succ, List.getElem_cons_zero, List.setIfInBounds_toArray, List.set_cons_zero, List.set_cons_succ]
                        first | (refine Wk.skip (m := 3) (k := 17) rfl (by rfl) ?_) | (refine Wk.step (m := 3) (k := 17) (v := _) rfl (by rfl) (fun wv hS => by obtain ⟨s0, s1, s2, s3, s4, s5, s6, s7, s8, s9, s10⟩ := hS; go_simp; try with_reducible rfl) ?_)
                        try simp only [Act.put, List.getElem_toArray, List.getElem_cons_succ, List.getElem_cons_zero, List.setIfInBounds_toArray, List.set_cons_zero, List.set_cons_succ]
                        first | (refine Wk.skip (m := 2) (k := 18) rfl (by rfl) ?_) | (refine Wk.step (m := 2) (k := 18) (v := _) rfl (by rfl) (fun wv hS => by obtain ⟨s0, s1, s2, s3, s4, s5, s6, s7, s8, s9, s10⟩ := hS; go_simp; try with_reducible rfl) ?_)
                        try simp only [Act.put, List.getElem_toArray, List.getElem_cons_succ, List.getElem_cons_zero, List.setIfInBounds_toArray, List.set_cons_zero, List.set_cons_succ]
                        first | (refine Wk.skip (m := 1) (k := 19) rfl (by rfl) ?_) | (refine Wk.step (m := 1) (k := 19) (v := _) rfl (by rfl) (fun wv hS => by obtain ⟨s0, s1, s2, s3, s4, s5, s6, s7, s8, s9, s10⟩ := hS; go_simp; try with_reducible rfl) ?_)
                        try simp only [Act.put, List.getElem_toArray, List.getElem_cons_succ, List.getElem_cons_zero, List.setIfInBounds_toArray, List.set_cons_zero, List.set_cons_succ]
                        first | (refine Wk.skip (m := 0) (k := 20) rfl (by rfl) ?_) | (refine Wk.step (m := 0) (k := 20) (v := _) rfl (by rfl) (fun wv hS => by obtain ⟨s0, s1, s2, s3, s4, s5, s6, s7, s8, s9, s10⟩ := hS; go_simp; try with_reducible rfl) ?_)
                        try simp only [Act.put, List.getElem_toArray, List.getElem_cons_succ, List.getElem_cons_zero, List.setIfInBounds_toArray, List.set_cons_zero, List.set_cons_succ]
                        refine Wk.done fun wE hE => ?_
                        obtain ⟨mE, k0, k1, j2, q0, q1, q2, q3, q4, f0, f2⟩ := hE
                        have MZ := MR.trans mE
                        have hMZ := hMX.trans mE
                        have r1 : ((remote zl y2.nd y2.eg n1).1 != x.nd) = false := by unfold remB at hR; simp only [Bool.and_eq_true] at hR; simp only [bne, hR.1]; rfl
                        have r2 : ((remote zl y2.nd y2.eg n1).2 != x.ing) = false := by unfold remB at hR; simp only [Bool.and_eq_true] at hR; simp only [bne, hR.2]; rfl
                        clear hR hC hB2 hA
                        go_wp2_with fail
                        go_roundw
                        case rel => exact ⟨rfl, k + 1, by omega, by go_num, HE.out, hMZ⟩
                        case measure => simp [intOf]; omega
              · have HE := Lib.hid (allN_stop (p := wfS n0 zl n1 zs n) (n := n) (show (wfS n0 zl n1 zs n) k = false by unfold wfS; rw [← hx.out]; rw [hA, hB2, hC]; rfl) hlt)
                have HC := Lib.hid (show inUp (fun j => (colN THop.nd zs k).getD j 0) x.nd k = true by rw [hcong, hC])
                clear hC hB2 hA
                go_wp2_with fail
                refine wp_region_wk (fun w' => Mk0 (wr.alloc (Obj.cells #[Value.int .i64 x.nd, Value.int .i64 x.ing, Value.int .i64 x.eg, Value.int .i64 x.exp, Value.int .i64 x.mac] 61)) w' ∧ w'.cell? ⟨w.heap.size, 0, none⟩ = some (.slice a0 n0 c0) ∧ w'.cell? ⟨w.heap.size, 1, none⟩ = some (.slice a1 n1 c1) ∧ w'.cell? ⟨w.heap.size + 1, 2, none⟩ = some (.slice (some ⟨b, off, none⟩) n c) ∧ w'.cell? ⟨wr.heap.size, 0, none⟩ = some (.int .i64 x.nd) ∧ w'.cell? ⟨wr.heap.size, 1, none⟩ = some (.int .i64 x.ing) ∧ w'.cell? ⟨wr.heap.size, 2, none⟩ = some (.int .i64 x.eg) ∧ w'.cell? ⟨wr.heap.size, 3, none⟩ = some (.int .i64 x.exp) ∧ w'.cell? ⟨wr.heap.size, 4, none⟩ = some (.int .i64 x.mac)) (by kernel_rfl) (by kernel_rfl) (⟨Mk.drew1 _, k0, k1, j2, q0, q1, q2, q3, q4⟩) ?_
                change Wk _ _ _ _ 31 0 _
                first | (refine Wk.skip (m := 30) (k := 0) rfl (by rfl) ?_) | (refine Wk.step (m := 30) (k := 0) (v := _) rfl (by rfl) (fun wv hS => by obtain ⟨s0, s1, s2, s3, s4, s5, s6, s7, s8⟩ := hS; go_simp; try with_reducible rfl) ?_)
                try simp only [Act.put, List.getElem_toArray, List.getElem_cons_zero, List.setIfInBounds_toArray, List.set_cons_zero, List.set_cons_succ]
                refine Wk.call (m := 29) (k := 1) (v := .bool true) _ _ rfl (by rfl) (fun wv hS => by obtain ⟨s0, s1, s2, s3, s4, s5, s6, s7, s8⟩ := hS; go_simp; first | done | exact ⟨rfl, rfl⟩ | with_reducible rfl) (fun wv hS => ?_) ?_; · obtain ⟨s0, s1, s2, s3, s4, s5, s6, s7, s8⟩ := hS; refine (specVHop x.nd x.ing x.eg x.exp x.mac wv).mono ?_; rintro e w' ⟨he, mm⟩; exact ⟨by rw [he, HA.out], s0.trans mm, mm.cellAt s1, mm.cellAt s2, mm.cellAt s3, mm.cellAt s4, mm.cellAt s5, mm.cellAt s6, mm.cellAt s7, mm.cellAt s8⟩
                try simp only [Act.put, List.getElem_toArray, List.getElem_cons_succ, List.getElem_cons_zero, List.setIfInBounds_toArray, List.set_cons_zero, List.set_cons_succ]
                first | (refine Wk.skip (m := 28) (k := 2) rfl (by rfl) ?_) | (refine Wk.step (m := 28) (k := 2) (v := _) rfl (by rfl) (fun wv hS => by obtain ⟨s0, s1, s2, s3, s4, s5, s6, s7, s8⟩ := hS; go_simp; try with_reducible rfl) ?_)
                try simp only [Act.put, List.getElem_toArray, List.getElem_cons_succ, List.getElem_cons_zero, List.setIfInBounds_toArray, List.set_cons_zero, List.set_cons_succ]
                first | (refine Wk.skip (m := 27) (k := 3) rfl (by rfl) ?_) | (refine Wk.step (m := 27) (k := 3) (v := _) rfl (by rfl) (fun wv hS => by obtain ⟨s0, s1, s2, s3, s4, s5, s6, s7, s8⟩ := hS; go_simp; try with_reducible rfl) ?_)
                try simp only [Act.put, List.getElem_toArray, List.getElem_cons_succ, List.getElem_cons_zero, List.setIfInBounds_toArray, List.set_cons_zero, List.set_cons_succ]
                first | (refine Wk.skip (m := 26) (k := 4) rfl (by rfl) ?_) | (refine Wk.step (m := 26) (k := 4) (v := _) rfl (by rfl) (fun wv hS => by obtain ⟨s0, s1, s2, s3, s4, s5, s6, s7, s8⟩ := hS; go_simp; try with_reducible rfl) ?_)
                try simp only [Act.put, List.getElem_toArray, List.getElem_cons_succ, List.getElem_cons_zero, List.setIfInBounds_toArray, List.set_cons_zero, List.set_cons_succ]
                first | (refine Wk.skip (m := 25) (k := 5) rfl (by rfl) ?_) | (refine Wk.step (m := 25) (k := 5) (v := _) rfl (by rfl) (fun wv hS => by obtain ⟨s0, s1, s2, s3, s4, s5, s6, s7, s8⟩ := hS; go_simp; try with_reducible rfl) ?_)
                try simp only [Act.put, List.getElem_toArray, List.getElem_cons_succ, List.getElem_cons_zero, List.setIfInBounds_toArray, List.set_cons_zero, List.set_cons_succ]
                first | (refine Wk.skip (m := 24) (k := 6) rfl (by rfl) ?_) | (refine Wk.step (m := 24) (k := 6) (v := _) rfl (by rfl) (fun wv hS => by obtain ⟨s0, s1, s2, s3, s4, s5, s6, s7, s8⟩ := hS; go_simp; try with_reducible rfl) ?_)
                try simp only [Act.put, List.getElem_toArray, List.getElem_cons_succ, List.getElem_cons_zero, List.setIfInBounds_toArray, List.set_cons_zero, List.set_cons_succ]
                refine Wk.call (m := 23) (k := 7) (v := .bool true) _ _ rfl (by rfl) (fun wv hS => by obtain ⟨s0, s1, s2, s3, s4, s5, s6, s7, s8⟩ := hS; go_simp; first | done | exact ⟨rfl, rfl⟩ | with_reducible rfl) (fun wv hS => ?_) ?_; · obtain ⟨s0, s1, s2, s3, s4, s5, s6, s7, s8⟩ := hS; refine (specIsAS a0 a1 n0 c0 n1 c1 x.nd wv hn0).mono ?_; rintro e w' ⟨he, mm⟩; exact ⟨by rw [he, HBq.out], s0.trans mm, mm.cellAt s1, mm.cellAt s2, mm.cellAt s3, mm.cellAt s4, mm.cellAt s5, mm.cellAt s6, mm.cellAt s7, mm.cellAt s8⟩
                try simp only [Act.put, List.getElem_toArray, List.getElem_cons_succ, List.getElem_cons_zero, List.setIfInBounds_toArray, List.set_cons_zero, List.set_cons_succ]
                first | (refine Wk.skip (m := 22) (k := 8) rfl (by rfl) ?_) | (refine Wk.step (m := 22) (k := 8) (v := _) rfl (by rfl) (fun wv hS => by obtain ⟨s0, s1, s2, s3, s4, s5, s6, s7, s8⟩ := hS; go_simp; try with_reducible rfl) ?_)
                try simp only [Act.put, List.getElem_toArray, List.getElem_cons_succ, List.getElem_cons_zero, List.setIfInBounds_toArray, List.set_cons_zero, List.set_cons_succ]
                first | (refine Wk.skip (m := 21) (k := 9) rfl (by rfl) ?_) | (refine Wk.step (m := 21) (k := 9) (v := _) rfl (by rfl) (fun wv hS => by obtain ⟨s0, s1, s2, s3, s4, s5, s6, s7, s8⟩ := hS; go_simp; try with_reducible rfl) ?_)
                try simp only [Act.put, List.getElem_toArray, List.getElem_cons_succ, List.getElem_cons_zero, List.setIfInBounds_toArray, List.set_cons_zero, List.set_cons_succ]
                first | (refine Wk.skip (m := 20) (k := 10) rfl (by rfl) ?_) | (refine Wk.step (m := 20) (k := 10) (v := _) rfl (by rfl) (fun wv hS => by obtain ⟨s0, s1, s2, s3, s4, s5, s6, s7, s8⟩ := hS; go_simp; try with_reducible rfl) ?_)
                try simp only [Act.put, List.getElem_toArray, List.getElem_cons_succ, List.getElem_cons_zero, List.setIfInBounds_toArray, List.set_cons_zero, List.set_cons_succ]
                first | (refine Wk.skip (m := 19) (k := 11) rfl (by rfl) ?_) | (refine Wk.step (m := 19) (k := 11) (v := _) rfl (by rfl) (fun wv hS => by obtain ⟨s0, s1, s2, s3, s4, s5, s6, s7, s8⟩ := hS; go_simp; try with_reducible rfl) ?_)
                try simp only [Act.put, List.getElem_toArray, List.getElem_cons_succ, List.getElem_cons_zero, List.setIfInBounds_toArray, List.set_cons_zero, List.set_cons_succ]
                first | (refine Wk.skip (m := 18) (k := 12) rfl (by rfl) ?_) | (refine Wk.step (m := 18) (k := 12) (v := _) rfl (by rfl) (fun wv hS => by obtain ⟨s0, s1, s2, s3, s4, s5, s6, s7, s8⟩ := hS; go_simp; try with_reducible rfl) ?_)
                try simp only [Act.put, List.getElem_toArray, List.getElem_cons_succ, List.getElem_cons_zero, List.setIfInBounds_toArray, List.set_cons_zero, List.set_cons_succ]
                first | (refine Wk.skip (m := 17) (k := 13) rfl (by rfl) ?_) | (refine Wk.step (m := 17) (k := 13) (v := _) rfl (by rfl) (fun wv hS => by obtain ⟨s0, s1, s2, s3, s4, s5, s6, s7, s8⟩ := hS; go_simp; try with_reducible rfl) ?_)
                try simp only [Act.put, List.getElem_toArray, List.getElem_cons_succ, List.getElem_cons_zero, List.setIfInBounds_toArray, List.set_cons_zero, List.set_cons_succ]
                first | (refine Wk.skip (m := 16) (k := 14) rfl (by rfl) ?_) | (refine Wk.step (m := 16) (k := 14) (v := _) rfl (by rfl) (fun wv hS => by obtain ⟨s0, s1, s2, s3, s4, s5, s6, s7, s8⟩ := hS; go_simp; try with_reducible rfl) ?_)
                try simp only [Act.put, List.getElem_toArray, List.getElem_cons_succ, List.getElem_cons_zero, List.setIfInBounds_toArray, List.set_cons_zero, List.set_cons_succ]
                first | (refine Wk.skip (m := 15) (k := 15) rfl (by rfl) ?_) | (refine Wk.step (m := 15) (k := 15) (v := _) rfl (by rfl) (fun wv hS => by obtain ⟨s0, s1, s2, s3, s4, s5, s6, s7, s8⟩ := hS; go_simp; try with_reducible rfl) ?_)
                try simp only [Act.put, List.getElem_toArray, List.getElem_cons_succ, List.getElem_cons_zero, List.setIfInBounds_toArray, List.set_cons_zero, List.set_cons_succ]
                refine Wk.call (m := 14) (k := 16) (v := .bool true) _ _ rfl (by rfl) (fun wv hS => by obtain ⟨s0, s1, s2, s3, s4, s5, s6, s7, s8⟩ := hS; go_simp; first | done | exact ⟨rfl, rfl⟩ | with_reducible rfl) (fun wv hS => ?_) ?_; · obtain ⟨s0, s1, s2, s3, s4, s5, s6, s7, s8⟩ := hS; refine (specHas9 x.nd A k cc w2.heap.size (colN THop.nd zs k) wv (HI.out wv s0) (by omega)).mono ?_; rintro e w' ⟨he, rfl⟩; exact ⟨by rw [he, HC.out], ⟨s0, s1, s2, s3, s4, s5, s6, s7, s8⟩⟩
                try simp only [Act.put, List.getElem_toArray, List.getElem_cons_succ, List.getElem_cons_zero, List.setIfInBounds_toArray, List.set_cons_zero, List.set_cons_succ]
                first | (refine Wk.skip (m := 13) (k := 17) rfl (by rfl) ?_) | (refine Wk.step (m := 13) (k := 17) (v := _) rfl (by rfl) (fun wv hS => by obtain ⟨s0, s1, s2, s3, s4, s5, s6, s7, s8⟩ := hS; go_simp; try with_reducible rfl) ?_)
                try simp only [Act.put, List.getElem_toArray, List.getElem_cons_succ, List.getElem_cons_zero, List.setIfInBounds_toArray, List.set_cons_zero, List.set_cons_succ]
                first | (refine Wk.skip (m := 12) (k := 18) rfl (by rfl) ?_) | (refine Wk.step (m := 12) (k := 18) (v := _) rfl (by rfl) (fun wv hS => by obtain ⟨s0, s1, s2, s3, s4, s5, s6, s7, s8⟩ := hS; go_simp; try with_reducible rfl) ?_)
                try simp only [Act.put, List.getElem_toArray, List.getElem_cons_succ, List.getElem_cons_zero, List.setIfInBounds_toArray, List.set_cons_zero, List.set_cons_succ]
                first | (refine Wk.skip (m := 11) (k := 19) rfl (by rfl) ?_) | (refine Wk.step (m := 11) (k := 19) (v := _) rfl (by rfl) (fun wv hS => by obtain ⟨s0, s1, s2, s3, s4, s5, s6, s7, s8⟩ := hS; go_simp; try with_reducible rfl) ?_)
                try simp only [Act.put, List.getElem_toArray, List.getElem_cons_succ, List.getElem_cons_zero, List.setIfInBounds_toArray, List.set_cons_zero, List.set_cons_succ]
                first | (refine Wk.skip (m := 10) (k := 20) rfl (by rfl) ?_) | (refine Wk.step (m := 10) (k := 20) (v := _) rfl (by rfl) (fun wv hS => by obtain ⟨s0, s1, s2, s3, s4, s5, s6, s7, s8⟩ := hS; go_simp; try with_reducible rfl) ?_)
                try simp only [Act.put, List.getElem_toArray, List.getElem_cons_succ, List.getElem_cons_zero, List.setIfInBounds_toArray, List.set_cons_zero, List.set_cons_succ]
                first | (refine Wk.skip (m := 9) (k := 21) rfl (by rfl) ?_) | (refine Wk.step (m := 9) (k := 21) (v := _) rfl (by rfl) (fun wv hS => by obtain ⟨s0, s1, s2, s3, s4, s5, s6, s7, s8⟩ := hS; go_simp; try with_reducible rfl) ?_)
                try simp only [Act.put, List.getElem_toArray, List.getElem_cons_succ, List.getElem_cons_zero, List.setIfInBounds_toArray, List.set_cons_zero, List.set_cons_succ]
                first | (refine Wk.skip (m := 8) (k := 22) rfl (by rfl) ?_) | (refine Wk.step (m := 8) (k := 22) (v := _) rfl (by rfl) (fun wv hS => by obtain ⟨s0, s1, s2, s3, s4, s5, s6, s7, s8⟩ := hS; go_simp; try with_reducible rfl) ?_)
                try simp only [Act.put, List.getElem_toArray, List.getElem_cons_succ, List.getElem_cons_zero, List.setIfInBounds_toArray, List.set_cons_zero, List.set_cons_succ]
                first | (refine Wk.skip (m := 7) (k := 23) rfl (by rfl) ?_) | (refine Wk.step (m := 7) (k := 23) (v := _) rfl (by rfl) (fun wv hS => by obtain ⟨s0, s1, s2, s3, s4, s5, s6, s7, s8⟩ := hS; go_simp; try with_reducible rfl) ?_)
                try simp only [Act.put, List.getElem_toArray, List.getElem_cons_succ, List.getElem_cons_zero, List.setIfInBounds_toArray, List.set_cons_zero, List.set_cons_succ]
                first | (refine Wk.skip (m := 6) (k := 24) rfl (by rfl) ?_) | (refine Wk.step (m := 6) (k := 24) (v := _) rfl (by rfl) (fun wv hS => by obtain ⟨s0, s1, s2, s3, s4, s5, s6, s7, s8⟩ := hS; go_simp; try with_reducible rfl) ?_)
                try simp only [Act.put, List.getElem_toArray, List.getElem_cons_succ, List.getElem_cons_zero, List.setIfInBounds_toArray, List.set_cons_zero, List.set_cons_succ]
                first | (refine Wk.skip (m := 5) (k := 25) rfl (by rfl) ?_) | (refine Wk.step (m := 5) (k := 25) (v := _) rfl (by rfl) (fun wv hS => by obtain ⟨s0, s1, s2, s3, s4, s5, s6, s7, s8⟩ := hS; go_simp; try with_reducible rfl) ?_)
                try simp only [Act.put, List.getElem_toArray, List.getElem_cons_succ, List.getElem_cons_zero, List.setIfInBounds_toArray, List.set_cons_zero, List.set_cons_succ]
                first | (refine Wk.skip (m := 4) (k := 26) rfl (by rfl) ?_) | (refine Wk.step (m := 4) (k := 26) (v := _) rfl (by rfl) (fun wv hS => by obtain ⟨s0, s1, s2, s3, s4, s5, s6, s7, s8⟩ := hS; go_simp; try with_reducible rfl) ?_)
                try simp only [Act.put, List.getElem_toArray, List.getElem_cons_succ, List.getElem_cons_zero, List.setIfInBounds_toArray, List.set_cons_zero, List.set_cons_succ]
                first | (refine Wk.skip (m := 3) (k := 27) rfl (by rfl) ?_) | (refine Wk.step (m := 3) (k := 27) (v := _) rfl (by rfl) (fun wv hS => by obtain ⟨s0, s1, s2, s3, s4, s5, s6, s7, s8⟩ := hS; go_simp; try with_reducible rfl) ?_)
                try simp only [Act.put, List.getElem_toArray, List.getElem_cons_succ, List.getElem_cons_zero, List.setIfInBounds_toArray, List.set_cons_zero, List.set_cons_succ]
                first | (refine Wk.skip (m := 2) (k := 28) rfl (by rfl) ?_) | (refine Wk.step (m := 2) (k := 28) (v := _) rfl (by rfl) (fun wv hS => by obtain ⟨s0, s1, s2, s3, s4, s5, s6, s7, s8⟩ := hS; go_simp; try with_reducible rfl) ?_)
                try simp only [Act.put, List.getElem_toArray, List.getElem_cons_succ, List.getElem_cons_zero, List.setIfInBounds_toArray, List.set_cons_zero, List.set_cons_succ]
                first | (refine Wk.skip (m := 1) (k := 29) rfl (by rfl) ?_) | (refine Wk.step (m := 1) (k := 29) (v := _) rfl (by rfl) (fun wv hS => by obtain ⟨s0, s1, s2, s3, s4, s5, s6, s7, s8⟩ := hS; go_simp; try with_reducible rfl) ?_)
                try simp only [Act.put, List.getElem_toArray, List.getElem_cons_succ, List.getElem_cons_zero, List.setIfInBounds_toArray, List.set_cons_zero, List.set_cons_succ]
                first | (refine Wk.skip (m := 0) (k := 30) rfl (by rfl) ?_) | (refine Wk.step (m := 0) (k := 30) (v := _) rfl (by rfl) (fun wv hS => by obtain ⟨s0, s1, s2, s3, s4, s5, s6, s7, s8⟩ := hS; go_simp; try with_reducible rfl) ?_)
                try simp only [Act.put, List.getElem_toArray, List.getElem_cons_succ, List.getElem_cons_zero, List.setIfInBounds_toArray, List.set_cons_zero, List.set_cons_succ]
                refine Wk.done fun wE hE => ?_
                obtain ⟨mE, k0, k1, j2, q0, q1, q2, q3, q4⟩ := hE
                go_wp2_with fail
                go_ret
                exact ⟨retB (by rw [HR.out, ← wf_same n0 zl n1 zs n, HE.out]), MR.trans mE⟩
        · obtain rfl : k = n := by omega
          go_wp2_with fail
          go_ret
          exact ⟨retB (by rw [HR.out, ← wf_same n0 zl n1 zs k, hS.out]), hM'⟩
  · have HR := Lib.hid (show wfB n0 zl n1 zs n = false by unfold wfB; rw [decide_eq_false hr]; rfl)
    have HN := Lib.hid (show (n : Int) < 1 ∨ (8 : Int) < (n : Int) by omega)
    clear hr
    go_enter Tryz.func47, Tryz.ntmps47
    go_wp2_with fail
    refine (specInNo _ _ _ _ HN.out).mono ?_
    rintro e w' ⟨rfl, rfl⟩
    go_wp2_with fail
    go_ret
    exact ⟨retB HR.out.symm, M0⟩

set_option maxRecDepth 100000 in
set_option maxHeartbeats 40000000 in
theorem implWF (a0 a1 : Option Addr) (n0 c0 n1 c1 B : Nat) (zl : List TLink) (x0 x1 : Int) (a : Option Addr) (n c B' : Nat) (zs : List THop) (w : World) (hl : HasLink w B a1 n1 zl) (hB : B ≤ w.heap.size) (hn0 : n0 ≤ 1048576) (hn1 : n1 ≤ 1048576) (h : HasHop w B' a n zs) (hB' : B' ≤ w.heap.size) (hn : n ≤ 1048576) :
    Calls Tryz.prog 56 #[.agg #[.slice a0 n0 c0, .slice a1 n1 c1], .agg #[.int .i64 x0, .int .i64 x1, .slice a n c]] w fun e w' => e = .returned (.bool (wfB n0 zl n1 zs n)) ∧ Mk0 w w' := by
  have M0 := (Mk.alloc w (Obj.cells #[Value.slice a0 n0 c0, Value.slice a1 n1 c1] 35)).new (Obj.cells #[Value.int .i64 x0, Value.int .i64 x1, Value.slice a n c] 39)
  have k0 : ((w.alloc (Obj.cells #[Value.slice a0 n0 c0, Value.slice a1 n1 c1] 35)).alloc (Obj.cells #[Value.int .i64 x0, Value.int .i64 x1, Value.slice a n c] 39)).cell? ⟨w.heap.size, 0, none⟩ = some (.slice a0 n0 c0) := by simp [go_sem]
  have k1 : ((w.alloc (Obj.cells #[Value.slice a0 n0 c0, Value.slice a1 n1 c1] 35)).alloc (Obj.cells #[Value.int .i64 x0, Value.int .i64 x1, Value.slice a n c] 39)).cell? ⟨w.heap.size, 1, none⟩ = some (.slice a1 n1 c1) := by simp [go_sem]
  have j2 : ((w.alloc (Obj.cells #[Value.slice a0 n0 c0, Value.slice a1 n1 c1] 35)).alloc (Obj.cells #[Value.int .i64 x0, Value.int .i64 x1, Value.slice a n c] 39)).cell? ⟨w.heap.size + 1, 2, none⟩ = some (.slice a n c) := by simp [go_sem]
  have hsz0 := M0.size
  by_cases hr : 1 ≤ n ∧ n ≤ 8
  · have HN := Lib.hid (show (1 : Int) ≤ (n : Int) ∧ (n : Int) ≤ 8 by omega)
    have hnp : 0 < n := by omega
    have hn8 : n ≤ 8 := by omega
    have hrT := decide_eq_true hr
    have HRT := Lib.hid hrT
    clear hr hrT
    obtain ⟨b, off, y, rfl, hb, hy, e0, e1, e2, e3, e4⟩ := HasHop.at _ _ _ _ _ _ (h.mk M0 hB' (.inr (Nat.le_refl _))) hnp
    simp only [Nat.zero_mul, Nat.add_zero] at e0 e1 e2 e3 e4
    clear e0 e2 e3 e4
    have i0 : (0 : Int) < (n : Int) := by omega
    cases e : (y.ing == 0)
    · have HR := Lib.hid (show wfB n0 zl n1 zs n = false by unfold wfB; rw [HRT.out, ← hy.out, e]; rfl)
      have e' : (y.ing != 0) = true := by simp only [bne, e]; rfl
      clear e
      go_enter Tryz.func56, Tryz.ntmps56
      go_wp2_with fail
      refine (implInYes _ _ _ _ HN.out.1 HN.out.2).mono ?_
      rintro e w' ⟨rfl, rfl⟩
      go_wp2_with fail
      go_ret
      exact ⟨retB HR.out.symm, M0⟩
    · have HR := Lib.hid (show wfB n0 zl n1 zs n = allN (wfI n0 zl n1 zs) n by unfold wfB; rw [HRT.out, ← hy.out, e]; rfl)
      have e' : (y.ing != 0) = false := by simp only [bne, e]; rfl
      clear e
      go_enter Tryz.func56, Tryz.ntmps56
      go_wp2_with fail
      refine (implInYes _ _ _ _ HN.out.1 HN.out.2).mono ?_
      rintro e w' ⟨rfl, rfl⟩
      go_wp2_with fail
      clear e1
      go_loopw [4, 5, 24] (fun r v i wr => r = .bool false ∧ ∃ k : Nat, k ≤ n ∧ i = .int .i64 k ∧ v = .int .i64 (seenS (ndAt zs) k) ∧ Hid (allN (wfI n0 zl n1 zs) k = true) ∧ Mk0 ((w.alloc (Obj.cells #[Value.slice a0 n0 c0, Value.slice a1 n1 c1] 35)).alloc (Obj.cells #[Value.int .i64 x0, Value.int .i64 x1, Value.slice (some ⟨b, off, none⟩) n c] 39)) wr) (fun _ _ i _ => n - (intOf i).toNat)
      case atStart => exact ⟨rfl, 0, Nat.zero_le _, rfl, rfl, rfl, Mk.refl _ _ _⟩
      case round =>
        obtain ⟨rfl, k, hk, rfl, rfl, hS, hM⟩ := hrel
        replace k0 := hM.cellAt k0
        replace k1 := hM.cellAt k1
        replace j2 := hM.cellAt j2
        have hM' := M0.trans hM
        by_cases hlt : k < n
        · obtain ⟨b', off', x, eb, hb2, hx, d0, d1, d2, d3, d4⟩ := HasHop.at _ _ _ _ _ _ (h.mk hM' hB' (.inr (Nat.le_refl _))) hlt
          simp only [Option.some.injEq, Addr.mk.injEq, and_true] at eb
          obtain ⟨rfl, rfl⟩ := eb
          have hbr := World.block_lt_of_cell? _ _ d0
          have hbq := World.block_lt_of_cell? _ _ k0
          have hbj := World.block_lt_of_cell? _ _ j2
          simp only at hbr hbq hbj
          have i1 : (0 : Int) ≤ (k : Int) := by omega
          have i2 : (k : Int) < (n : Int) := by omega
          have MX := Mk.alloc wr (Obj.cells #[Value.int .i64 x.nd, Value.int .i64 x.ing, Value.int .i64 x.eg, Value.int .i64 x.exp, Value.int .i64 x.mac] 61)
          have q0 : (wr.alloc (Obj.cells #[Value.int .i64 x.nd, Value.int .i64 x.ing, Value.int .i64 x.eg, Value.int .i64 x.exp, Value.int .i64 x.mac] 61)).cell? ⟨wr.heap.size, 0, none⟩ = some (.int .i64 x.nd) := by simp [go_sem]
          have q1 : (wr.alloc (Obj.cells #[Value.int .i64 x.nd, Value.int .i64 x.ing, Value.int .i64 x.eg, Value.int .i64 x.exp, Value.int .i64 x.mac] 61)).cell? ⟨wr.heap.size, 1, none⟩ = some (.int .i64 x.ing) := by simp [go_sem]
          have q2 : (wr.alloc (Obj.cells #[Value.int .i64 x.nd, Value.int .i64 x.ing, Value.int .i64 x.eg, Value.int .i64 x.exp, Value.int .i64 x.mac] 61)).cell? ⟨wr.heap.size, 2, none⟩ = some (.int .i64 x.eg) := by simp [go_sem]
          have q3 : (wr.alloc (Obj.cells #[Value.int .i64 x.nd, Value.int .i64 x.ing, Value.int .i64 x.eg, Value.int .i64 x.exp, Value.int .i64 x.mac] 61)).cell? ⟨wr.heap.size, 3, none⟩ = some (.int .i64 x.exp) := by simp [go_sem]
          have q4 : (wr.alloc (Obj.cells #[Value.int .i64 x.nd, Value.int .i64 x.ing, Value.int .i64 x.eg, Value.int .i64 x.exp, Value.int .i64 x.mac] 61)).cell? ⟨wr.heap.size, 4, none⟩ = some (.int .i64 x.mac) := by simp [go_sem]
          have j2w := j2
          replace k0 := MX.cellAt k0
          replace k1 := MX.cellAt k1
          replace j2 := MX.cellAt j2
          have MR := hM'.trans MX
          have hMX := hM.trans MX
          cases hA : hopOk x
          · have HE := Lib.hid (allN_stop (p := wfI n0 zl n1 zs) (n := n) (show (wfI n0 zl n1 zs) k = false by unfold wfI; rw [← hx.out]; rw [hA]; rfl) hlt)
            have HA := Lib.hid hA
            clear hA
            go_wp2_with fail
            refine (implVHop x.nd x.ing x.eg x.exp x.mac _).mono ?_
            rintro e w3 ⟨he, m3⟩
            rw [HA.out] at he
            subst he
            replace k0 := m3.cellAt k0
            replace k1 := m3.cellAt k1
            replace j2 := m3.cellAt j2
            replace q0 := m3.cellAt q0
            replace q1 := m3.cellAt q1
            replace q2 := m3.cellAt q2
            replace q3 := m3.cellAt q3
            replace q4 := m3.cellAt q4
            have mE := m3
            go_wp2_with fail
            go_ret
            exact ⟨retB (by rw [HR.out, HE.out]), MR.trans mE⟩
          · have hnd := hA
            simp only [hopOk, decide_eq_true_eq] at hnd
            replace hnd := hnd.1
            have HA := Lib.hid hA
            cases hB2 : isAsB n0 x.nd
            · have HE := Lib.hid (allN_stop (p := wfI n0 zl n1 zs) (n := n) (show (wfI n0 zl n1 zs) k = false by unfold wfI; rw [← hx.out]; rw [hA, hB2]; rfl) hlt)
              have HBq := Lib.hid hB2
              clear hB2 hA
              go_wp2_with fail
              refine (implVHop x.nd x.ing x.eg x.exp x.mac _).mono ?_
              rintro e w3 ⟨he, m3⟩
              rw [HA.out] at he
              subst he
              replace k0 := m3.cellAt k0
              replace k1 := m3.cellAt k1
              replace j2 := m3.cellAt j2
              replace q0 := m3.cellAt q0
              replace q1 := m3.cellAt q1
              replace q2 := m3.cellAt q2
              replace q3 := m3.cellAt q3
              replace q4 := m3.cellAt q4
              have mE := m3
              have MB := MR.trans m3
              go_wp2_with fail
              refine (implIsAS a0 a1 n0 c0 n1 c1 x.nd _ hn0).mono ?_
              rintro e w4 ⟨he, m4⟩
              rw [HBq.out] at he
              subst he
              replace k0 := m4.cellAt k0
              replace k1 := m4.cellAt k1
              replace j2 := m4.cellAt j2
              replace q0 := m4.cellAt q0
              replace q1 := m4.cellAt q1
              replace q2 := m4.cellAt q2
              replace q3 := m4.cellAt q3
              replace q4 := m4.cellAt q4
              replace mE := m3.trans m4
              go_wp2_with fail
              go_ret
              exact ⟨retB (by rw [HR.out, HE.out]), MR.trans mE⟩
            · have HBq := Lib.hid hB2
              have hso := seenS_ok (ndAt zs) k (wf_nd hS.out)
              have HH := Lib.hid (hso.2 x.nd (by omega) (by omega))
              cases hC : inUp (ndAt zs) x.nd k
              · have HC := Lib.hid (show inUp (ndAt zs) x.nd k = false from hC)
                go_wp2_with fail
                refine (implVHop x.nd x.ing x.eg x.exp x.mac _).mono ?_
                rintro e w3 ⟨he, m3⟩
                rw [HA.out] at he
                subst he
                replace k0 := m3.cellAt k0
                replace k1 := m3.cellAt k1
                replace j2 := m3.cellAt j2
                replace q0 := m3.cellAt q0
                replace q1 := m3.cellAt q1
                replace q2 := m3.cellAt q2
                replace q3 := m3.cellAt q3
                replace q4 := m3.cellAt q4
                have mE := m3
                have MB := MR.trans m3
                go_wp2_with fail
                refine (implIsAS a0 a1 n0 c0 n1 c1 x.nd _ hn0).mono ?_
                rintro e w4 ⟨he, m4⟩
                rw [HBq.out] at he
                subst he
                replace k0 := m4.cellAt k0
                replace k1 := m4.cellAt k1
                replace j2 := m4.cellAt j2
                replace q0 := m4.cellAt q0
                replace q1 := m4.cellAt q1
                replace q2 := m4.cellAt q2
                replace q3 := m4.cellAt q3
                replace q4 := m4.cellAt q4
                replace mE := m3.trans m4
                go_wp2_with fail
                refine (implContains (seenS (ndAt zs) k) x.nd _).mono ?_
                rintro e w5 ⟨he, rfl⟩
                rw [HH.out, HC.out] at he
                subst he
                go_wp2_with fail
                replace MR := MR.trans mE
                replace hMX := hMX.trans mE
                have HV := Lib.hid (show seenS (ndAt zs) (k + 1) = addV (seenS (ndAt zs) k) x.nd by rw [seenS]; unfold ndAt; rw [← hx.out])
                rcases Nat.eq_zero_or_pos k with hk0 | hk0
                · have hkb : (k == 0) = true := by simp [hk0]
                  have hk1 : decide ((0 : Int) < (k : Int)) = false := decide_eq_false (by omega)
                  have hk1n : decide (0 < k) = false := decide_eq_false (by omega)
                  have HE := Lib.hid (allN_go hS.out (show (wfI n0 zl n1 zs) k = true by unfold wfI; rw [← hx.out, hA, hB2, hC, hkb]; rfl))
                  clear hC hB2 hA hso hk0 hkb j2w
                  refine wp_region_wk (fun w' => Mk0 w4 w' ∧ w'.cell? ⟨w.heap.size, 0, none⟩ = some (.slice a0 n0 c0) ∧ w'.cell? ⟨w.heap.size, 1, none⟩ = some (.slice a1 n1 c1) ∧ w'.cell? ⟨w.heap.size + 1, 2, none⟩ = some (.slice (some ⟨b, off, none⟩) n c) ∧ w'.cell? ⟨wr.heap.size, 0, none⟩ = some (.int .i64 x.nd) ∧ w'.cell? ⟨wr.heap.size, 1, none⟩ = some (.int .i64 x.ing) ∧ w'.cell? ⟨wr.heap.size, 2, none⟩ = some (.int .i64 x.eg) ∧ w'.cell? ⟨wr.heap.size, 3, none⟩ = some (.int .i64 x.exp) ∧ w'.cell? ⟨wr.heap.size, 4, none⟩ = some (.int .i64 x.mac)) (by kernel_rfl) (by kernel_rfl) (⟨Mk.drew1 _, k0, k1, j2, q0, q1, q2, q3, q4⟩) ?_
                  change Wk _ _ _ _ 14 0 _
                  first | (refine Wk.skip (m := 13) (k := 0) rfl (by rfl) ?_) | (refine Wk.step (m := 13) (k := 0) (v := _) rfl (by rfl) (fun wv hS => by obtain ⟨s0, s1, s2, s3, s4, s5, s6, s7, s8⟩ := hS; go_simp; try with_reducible rfl) ?_)
                  try simp only [Act.put, List.getElem_toArray, List.getElem_cons_zero, List.setIfInBounds_toArray, List.set_cons_zero, List.set_cons_succ]
                  first | (refine Wk.skip (m := 12) (k := 1) rfl (by rfl) ?_) | (refine Wk.step (m := 12) (k := 1) (v := _) rfl (by rfl) (fun wv hS => by obtain ⟨s0, s1, s2, s3, s4, s5, s6, s7, s8⟩ := hS; go_simp; try with_reducible rfl) ?_)
                  try simp only [Act.put, List.getElem_toArray, List.getElem_cons_succ, List.getElem_cons_zero, List.setIfInBounds_toArray, List.set_cons_zero, List.set_cons_succ]
                  first | (refine Wk.skip (m := 11) (k := 2) rfl (by rfl) ?_) | (refine Wk.step (m := 11) (k := 2) (v := _) rfl (by rfl) (fun wv hS => by obtain ⟨s0, s1, s2, s3, s4, s5, s6, s7, s8⟩ := hS; go_simp; try with_reducible rfl) ?_)
                  try simp only [Act.put, List.getElem_toArray, List.getElem_cons_succ, List.getElem_cons_zero, List.setIfInBounds_toArray, List.set_cons_zero, List.set_cons_succ]
                  first | (refine Wk.skip (m := 10) (k := 3) rfl (by rfl) ?_) | (refine Wk.step (m := 10) (k := 3) (v := _) rfl (by rfl) (fun wv hS => by obtain ⟨s0, s1, s2, s3, s4, s5, s6, s7, s8⟩ := hS; go_simp; try with_reducible rfl) ?_)
                  try simp only [Act.put, List.getElem_toArray, List.getElem_cons_succ, List.getElem_cons_zero, List.setIfInBounds_toArray, List.set_cons_zero, List.set_cons_succ]
                  first | (refine Wk.skip (m := 9) (k := 4) rfl (by rfl) ?_) | (refine Wk.step (m := 9) (k := 4) (v := _) rfl (by rfl) (fun wv hS => by obtain ⟨s0, s1, s2, s3, s4, s5, s6, s7, s8⟩ := hS; go_simp; try with_reducible rfl) ?_)
                  try simp only [Act.put, List.getElem_toArray, List.getElem_cons_succ, List.getElem_cons_zero, List.setIfInBounds_toArray, List.set_cons_zero, List.set_cons_succ]
                  first | (refine Wk.skip (m := 8) (k := 5) rfl (by rfl) ?_) | (refine Wk.step (m := 8) (k := 5) (v := _) rfl (by rfl) (fun wv hS => by obtain ⟨s0, s1, s2, s3, s4, s5, s6, s7, s8⟩ := hS; go_simp; try with_reducible rfl) ?_)
                  try simp only [Act.put, List.getElem_toArray, List.getElem_cons_succ, List.getElem_cons_zero, List.setIfInBounds_toArray, List.set_cons_zero, List.set_cons_succ]
                  first | (refine Wk.skip (m := 7) (k := 6) rfl (by rfl) ?_) | (refine Wk.step (m := 7) (k := 6) (v := _) rfl (by rfl) (fun wv hS => by obtain ⟨s0, s1, s2, s3, s4, s5, s6, s7, s8⟩ := hS; go_simp; try with_reducible rfl) ?_)
                  try simp only [Act.put, List.getElem_toArray, List.getElem_cons_succ, List.getElem_cons_zero, List.setIfInBounds_toArray, List.set_cons_zero, List.set_cons_succ]
                  first | (refine Wk.skip (m := 6) (k := 7) rfl (by rfl) ?_) | (refine Wk.step (m := 6) (k := 7) (v := _) rfl (by rfl) (fun wv hS => by obtain ⟨s0, s1, s2, s3, s4, s5, s6, s7, s8⟩ := hS; go_simp; try with_reducible rfl) ?_)
                  try simp only [Act.put, List.getElem_toArray, List.getElem_cons_succ, List.getElem_cons_zero, List.setIfInBounds_toArray, List.set_cons_zero, List.set_cons_succ]
                  first | (refine Wk.skip (m := 5) (k := 8) rfl (by rfl) ?_) | (refine Wk.step (m := 5) (k := 8) (v := _) rfl (by rfl) (fun wv hS => by obtain ⟨s0, s1, s2, s3, s4, s5, s6, s7, s8⟩ := hS; go_simp; try with_reducible rfl) ?_)
                  try simp only [Act.put, List.getElem_toArray, List.getElem_cons_succ, List.getElem_cons_zero, List.setIfInBounds_toArray, List.set_cons_zero, List.set_cons_succ]
                  first | (refine Wk.skip (m := 4) (k := 9) rfl (by rfl) ?_) | (refine Wk.step (m := 4) (k := 9) (v := _) rfl (by rfl) (fun wv hS => by obtain ⟨s0, s1, s2, s3, s4, s5, s6, s7, s8⟩ := hS; go_simp; try with_reducible rfl) ?_)
                  try simp only [Act.put, List.getElem_toArray, List.getElem_cons_succ, List.getElem_cons_zero, List.setIfInBounds_toArray, List.set_cons_zero, List.set_cons_succ]
                  first | (refine Wk.skip (m := 3) (k := 10) rfl (by rfl) ?_) | (refine Wk.step (m := 3) (k := 10) (v := _) rfl (by rfl) (fun wv hS => by obtain ⟨s0, s1, s2, s3, s4, s5, s6, s7, s8⟩ := hS; go_simp; try with_reducible rfl) ?_)
                  try simp only [Act.put, List.getElem_toArray, List.getElem_cons_succ, List.getElem_cons_zero, List.setIfInBounds_toArray, List.set_cons_zero, List.set_cons_succ]
                  refine Wk.skip (m := 2) (k := 11) rfl (by rfl) ?_
                  try simp only [Act.put, List.getElem_toArray, List.getElem_cons_succ, List.getElem_cons_zero, List.setIfInBounds_toArray, List.set_cons_zero, List.set_cons_succ]
                  first | (refine Wk.skip (m := 1) (k := 12) rfl (by rfl) ?_) | (refine Wk.step (m := 1) (k := 12) (v := _) rfl (by rfl) (fun wv hS => by obtain ⟨s0, s1, s2, s3, s4, s5, s6, s7, s8⟩ := hS; go_simp; try with_reducible rfl) ?_)
                  try simp only [Act.put, List.getElem_toArray, List.getElem_cons_succ, List.getElem_cons_zero, List.setIfInBounds_toArray, List.set_cons_zero, List.set_cons_succ]
                  first | (refine Wk.skip (m := 0) (k := 13) rfl (by rfl) ?_) | (refine Wk.step (m := 0) (k := 13) (v := _) rfl (by rfl) (fun wv hS => by obtain ⟨s0, s1, s2, s3, s4, s5, s6, s7, s8⟩ := hS; go_simp; try with_reducible rfl) ?_)
                  try simp only [Act.put, List.getElem_toArray, List.getElem_cons_succ, List.getElem_cons_zero, List.setIfInBounds_toArray, List.set_cons_zero, List.set_cons_succ]
                  refine Wk.done fun wE hE => ?_
                  obtain ⟨mE, k0, k1, j2, q0, q1, q2, q3, q4⟩ := hE
                  replace MR := MR.trans mE
                  replace hMX := hMX.trans mE
                  have hbE := World.block_lt_of_cell? _ _ q0
                  simp only at hbE
                  go_wp2_with fail
                  refine (implAddElement (seenS (ndAt zs) k) x.nd _).mono ?_
                  rintro e w' ⟨rfl, rfl⟩
                  go_wp2_with fail
                  go_roundw
                  case rel => exact ⟨rfl, k + 1, by omega, by go_num, congrArg (Value.int .i64) HV.out.symm, HE.out, hMX⟩
                  case measure => simp [intOf]; omega
                · obtain ⟨q, hq⟩ : ∃ q, Hid (k = q + 1) := ⟨k - 1, by show k = k - 1 + 1; omega⟩
                  obtain ⟨b2, off2, y2, eb2, hb3, hy2, f0, f1, f2, f3, f4⟩ := HasHop.at _ _ _ _ _ _ (h.mk MR hB' (.inr (Nat.le_refl _))) (show q < n by have := hq.out; omega)
                  simp only [Option.some.injEq, Addr.mk.injEq, and_true] at eb2
                  obtain ⟨rfl, rfl⟩ := eb2
                  have i4 : (0 : Int) ≤ (q : Int) := by omega
                  have i5 : (q : Int) < (n : Int) := by have := hq.out; omega
                  have hw3 : IntKind.i64.wrap ((k : Int) - 1) = (q : Int) := by rw [IntKind.wrap_i64]; have := hq.out; omega
                  have hk1 : decide ((0 : Int) < (k : Int)) = true := decide_eq_true (by omega)
                  have hk1n : decide (0 < k) = true := decide_eq_true (by omega)
                  have hyq := Lib.hid (show y2 = zs.getD (k - 1) default by rw [hy2.out, hq.out, Nat.add_sub_cancel])
                  have hbE := World.block_lt_of_cell? _ _ q0
                  simp only at hbE
                  have hkb : (k == 0) = false := by simp; omega
                  cases hR : folB zl n1 y2 x
                  · have HE := Lib.hid (allN_stop (p := wfI n0 zl n1 zs) (n := n) (show (wfI n0 zl n1 zs) k = false by unfold wfI; rw [← hx.out, ← hyq.out, hA, hB2, hC, hkb, hR]; rfl) hlt)
                    have HFq := Lib.hid hR
                    clear hR hC hB2 hA hso
                    refine wp_region_wk (fun w' => Mk0 w4 w' ∧ w'.cell? ⟨w.heap.size, 0, none⟩ = some (.slice a0 n0 c0) ∧ w'.cell? ⟨w.heap.size, 1, none⟩ = some (.slice a1 n1 c1) ∧ w'.cell? ⟨w.heap.size + 1, 2, none⟩ = some (.slice (some ⟨b, off, none⟩) n c) ∧ w'.cell? ⟨wr.heap.size, 0, none⟩ = some (.int .i64 x.nd) ∧ w'.cell? ⟨wr.heap.size, 1, none⟩ = some (.int .i64 x.ing) ∧ w'.cell? ⟨wr.heap.size, 2, none⟩ = some (.int .i64 x.eg) ∧ w'.cell? ⟨wr.heap.size, 3, none⟩ = some (.int .i64 x.exp) ∧ w'.cell? ⟨wr.heap.size, 4, none⟩ = some (.int .i64 x.mac) ∧ w'.cell? ⟨b, off + q * 5, none⟩ = some (.int .i64 y2.nd) ∧ w'.cell? ⟨b, off + q * 5 + 1, none⟩ = some (.int .i64 y2.ing) ∧ w'.cell? ⟨b, off + q * 5 + 2, none⟩ = some (.int .i64 y2.eg) ∧ w'.cell? ⟨b, off + q * 5 + 3, none⟩ = some (.int .i64 y2.exp) ∧ w'.cell? ⟨b, off + q * 5 + 4, none⟩ = some (.int .i64 y2.mac)) (by kernel_rfl) (by kernel_rfl) (⟨Mk.drew1 _, k0, k1, j2, q0, q1, q2, q3, q4, f0, f1, f2, f3, f4⟩) ?_
                    change Wk _ _ _ _ 14 0 _
                    first | (refine Wk.skip (m := 13) (k := 0) rfl (by rfl) ?_) | (refine Wk.step (m := 13) (k := 0) (v := _) rfl (by rfl) (fun wv hS => by obtain ⟨s0, s1, s2, s3, s4, s5, s6, s7, s8, s9, s10, s11, s12, s13⟩ := hS; go_simp; try with_reducible rfl) ?_)
                    try simp only [Act.put, List.getElem_toArray, List.getElem_cons_zero, List.setIfInBounds_toArray, List.set_cons_zero, List.set_cons_succ]
                    first | (refine Wk.skip (m := 12) (k := 1) rfl (by rfl) ?_) | (refine Wk.step (m := 12) (k := 1) (v := _) rfl (by rfl) (fun wv hS => by obtain ⟨s0, s1, s2, s3, s4, s5, s6, s7, s8, s9, s10, s11, s12, s13⟩ := hS; go_simp; try with_reducible rfl) ?_)
                    try simp only [Act.put, List.getElem_toArray, List.getElem_cons_succ, List.getElem_cons_zero, List.setIfInBounds_toArray, List.set_cons_zero, List.set_cons_succ]
                    first | (refine Wk.skip (m := 11) (k := 2) rfl (by rfl) ?_) | (refine Wk.step (m := 11) (k := 2) (v := _) rfl (by rfl) (fun wv hS => by obtain ⟨s0, s1, s2, s3, s4, s5, s6, s7, s8, s9, s10, s11, s12, s13⟩ := hS; go_simp; try with_reducible rfl) ?_)
                    try simp only [Act.put, List.getElem_toArray, List.getElem_cons_succ, List.getElem_cons_zero, List.setIfInBounds_toArray, List.set_cons_zero, List.set_cons_succ]
                    first | (refine Wk.skip (m := 10) (k := 3) rfl (by rfl) ?_) | (refine Wk.step (m := 10) (k := 3) (v := _) rfl (by rfl) (fun wv hS => by obtain ⟨s0, s1, s2, s3, s4, s5, s6, s7, s8, s9, s10, s11, s12, s13⟩ := hS; go_simp; try with_reducible rfl) ?_)
                    try simp only [Act.put, List.getElem_toArray, List.getElem_cons_succ, List.getElem_cons_zero, List.setIfInBounds_toArray, List.set_cons_zero, List.set_cons_succ]
                    first | (refine Wk.skip (m := 9) (k := 4) rfl (by rfl) ?_) | (refine Wk.step (m := 9) (k := 4) (v := _) rfl (by rfl) (fun wv hS => by obtain ⟨s0, s1, s2, s3, s4, s5, s6, s7, s8, s9, s10, s11, s12, s13⟩ := hS; go_simp; try with_reducible rfl) ?_)
                    try simp only [Act.put, List.getElem_toArray, List.getElem_cons_succ, List.getElem_cons_zero, List.setIfInBounds_toArray, List.set_cons_zero, List.set_cons_succ]
                    first | (refine Wk.skip (m := 8) (k := 5) rfl (by rfl) ?_) | (refine Wk.step (m := 8) (k := 5) (v := _) rfl (by rfl) (fun wv hS => by obtain ⟨s0, s1, s2, s3, s4, s5, s6, s7, s8, s9, s10, s11, s12, s13⟩ := hS; go_simp; try with_reducible rfl) ?_)
                    try simp only [Act.put, List.getElem_toArray, List.getElem_cons_succ, List.getElem_cons_zero, List.setIfInBounds_toArray, List.set_cons_zero, List.set_cons_succ]
                    first | (refine Wk.skip (m := 7) (k := 6) rfl (by rfl) ?_) | (refine Wk.step (m := 7) (k := 6) (v := _) rfl (by rfl) (fun wv hS => by obtain ⟨s0, s1, s2, s3, s4, s5, s6, s7, s8, s9, s10, s11, s12, s13⟩ := hS; go_simp; try with_reducible rfl) ?_)
                    try simp only [Act.put, List.getElem_toArray, List.getElem_cons_succ, List.getElem_cons_zero, List.setIfInBounds_toArray, List.set_cons_zero, List.set_cons_succ]
                    first | (refine Wk.skip (m := 6) (k := 7) rfl (by rfl) ?_) | (refine Wk.step (m := 6) (k := 7) (v := _) rfl (by rfl) (fun wv hS => by obtain ⟨s0, s1, s2, s3, s4, s5, s6, s7, s8, s9, s10, s11, s12, s13⟩ := hS; go_simp; try with_reducible rfl) ?_)
                    try simp only [Act.put, List.getElem_toArray, List.getElem_cons_succ, List.getElem_cons_zero, List.setIfInBounds_toArray, List.set_cons_zero, List.set_cons_succ]
                    first | (refine Wk.skip (m := 5) (k := 8) rfl (by rfl) ?_) | (refine Wk.step (m := 5) (k := 8) (v := _) rfl (by rfl) (fun wv hS => by obtain ⟨s0, s1, s2, s3, s4, s5, s6, s7, s8, s9, s10, s11, s12, s13⟩ := hS; go_simp; try with_reducible rfl) ?_)
                    try simp only [Act.put, List.getElem_toArray, List.getElem_cons_succ, List.getElem_cons_zero, List.setIfInBounds_toArray, List.set_cons_zero, List.set_cons_succ]
                    first | (refine Wk.skip (m := 4) (k := 9) rfl (by rfl) ?_) | (refine Wk.step (m := 4) (k := 9) (v := _) rfl (by rfl) (fun wv hS => by obtain ⟨s0, s1, s2, s3, s4, s5, s6, s7, s8, s9, s10, s11, s12, s13⟩ := hS; go_simp; try with_reducible rfl) ?_)
                    try simp only [Act.put, List.getElem_toArray, List.getElem_cons_succ, List.getElem_cons_zero, List.setIfInBounds_toArray, List.set_cons_zero, List.set_cons_succ]
                    first | (refine Wk.skip (m := 3) (k := 10) rfl (by rfl) ?_) | (refine Wk.step (m := 3) (k := 10) (v := _) rfl (by rfl) (fun wv hS => by obtain ⟨s0, s1, s2, s3, s4, s5, s6, s7, s8, s9, s10, s11, s12, s13⟩ := hS; go_simp; try with_reducible rfl) ?_)
                    try simp only [Act.put, List.getElem_toArray, List.getElem_cons_succ, List.getElem_cons_zero, List.setIfInBounds_toArray, List.set_cons_zero, List.set_cons_succ]
                    refine Wk.call (m := 2) (k := 11) (v := .bool false) _ _ rfl (by rfl) (fun wv hS => by obtain ⟨s0, s1, s2, s3, s4, s5, s6, s7, s8, s9, s10, s11, s12, s13⟩ := hS; go_simp; first | done | exact ⟨rfl, rfl⟩ | with_reducible rfl) (fun wv hS => ?_) ?_; · obtain ⟨s0, s1, s2, s3, s4, s5, s6, s7, s8, s9, s10, s11, s12, s13⟩ := hS; refine (implFollows a0 a1 n0 c0 n1 c1 B zl y2 x wv (hl.mk (MR.trans s0) hB (.inr (Nat.le_refl _))) (Nat.le_trans hB (MR.trans s0).size) hn1).mono ?_; rintro e w' ⟨he, mm⟩; exact ⟨by rw [he, HFq.out], s0.trans mm, mm.cellAt s1, mm.cellAt s2, mm.cellAt s3, mm.cellAt s4, mm.cellAt s5, mm.cellAt s6, mm.cellAt s7, mm.cellAt s8, mm.cellAt s9, mm.cellAt s10, mm.cellAt s11, mm.cellAt s12, mm.cellAt s13⟩
                    try simp only [Act.put, List.getElem_toArray, List.getElem_cons_succ, List.getElem_cons_zero, List.setIfInBounds_toArray, List.set_cons_zero, List.set_cons_succ]
                    first | (refine Wk.skip (m := 1) (k := 12) rfl (by rfl) ?_) | (refine Wk.step (m := 1) (k := 12) (v := _) rfl (by rfl) (fun wv hS => by obtain ⟨s0, s1, s2, s3, s4, s5, s6, s7, s8, s9, s10, s11, s12, s13⟩ := hS; go_simp; try with_reducible rfl) ?_)
                    try simp only [Act.put, List.getElem_toArray, List.getElem_cons_succ, List.getElem_cons_zero, List.setIfInBounds_toArray, List.set_cons_zero, List.set_cons_succ]
                    first | (refine Wk.skip (m := 0) (k := 13) rfl (by rfl) ?_) | (refine Wk.step (m := 0) (k := 13) (v := _) rfl (by rfl) (fun wv hS => by obtain ⟨s0, s1, s2, s3, s4, s5, s6, s7, s8, s9, s10, s11, s12, s13⟩ := hS; go_simp; try with_reducible rfl) ?_)
                    try simp only [Act.put, List.getElem_toArray, List.getElem_cons_succ, List.getElem_cons_zero, List.setIfInBounds_toArray, List.set_cons_zero, List.set_cons_succ]
                    refine Wk.done fun wE hE => ?_
                    obtain ⟨mE, k0, k1, j2, q0, q1, q2, q3, q4, f0, f1, f2, f3, f4⟩ := hE
                    go_wp2_with fail
                    go_ret
                    exact ⟨retB (by rw [HR.out, HE.out]), MR.trans mE⟩
                  · have HE := Lib.hid (allN_go hS.out (show (wfI n0 zl n1 zs) k = true by unfold wfI; rw [← hx.out, ← hyq.out, hA, hB2, hC, hkb, hR]; rfl))
                    have HFq := Lib.hid hR
                    clear hR hC hB2 hA hso
                    refine wp_region_wk (fun w' => Mk0 w4 w' ∧ w'.cell? ⟨w.heap.size, 0, none⟩ = some (.slice a0 n0 c0) ∧ w'.cell? ⟨w.heap.size, 1, none⟩ = some (.slice a1 n1 c1) ∧ w'.cell? ⟨w.heap.size + 1, 2, none⟩ = some (.slice (some ⟨b, off, none⟩) n c) ∧ w'.cell? ⟨wr.heap.size, 0, none⟩ = some (.int .i64 x.nd) ∧ w'.cell? ⟨wr.heap.size, 1, none⟩ = some (.int .i64 x.ing) ∧ w'.cell? ⟨wr.heap.size, 2, none⟩ = some (.int .i64 x.eg) ∧ w'.cell? ⟨wr.heap.size, 3, none⟩ = some (.int .i64 x.exp) ∧ w'.cell? ⟨wr.heap.size, 4, none⟩ = some (.int .i64 x.mac) ∧ w'.cell? ⟨b, off + q * 5, none⟩ = some (.int .i64 y2.nd) ∧ w'.cell? ⟨b, off + q * 5 + 1, none⟩ = some (.int .i64 y2.ing) ∧ w'.cell? ⟨b, off + q * 5 + 2, none⟩ = some (.int .i64 y2.eg) ∧ w'.cell? ⟨b, off + q * 5 + 3, none⟩ = some (.int .i64 y2.exp) ∧ w'.cell? ⟨b, off + q * 5 + 4, none⟩ = some (.int .i64 y2.mac)) (by kernel_rfl) (by kernel_rfl) (⟨Mk.drew1 _, k0, k1, j2, q0, q1, q2, q3, q4, f0, f1, f2, f3, f4⟩) ?_
                    change Wk _ _ _ _ 14 0 _
                    first | (refine Wk.skip (m := 13) (k := 0) rfl (by rfl) ?_) | (refine Wk.step (m := 13) (k := 0) (v := _) rfl (by rfl) (fun wv hS => by obtain ⟨s0, s1, s2, s3, s4, s5, s6, s7, s8, s9, s10, s11, s12, s13⟩ := hS; go_simp; try with_reducible rfl) ?_)
                    try simp only [Act.put, List.getElem_toArray, List.getElem_cons_zero, List.setIfInBounds_toArray, List.set_cons_zero, List.set_cons_succ]
                    first | (refine Wk.skip (m := 12) (k := 1) rfl (by rfl) ?_) | (refine Wk.step (m := 12) (k := 1) (v := _) rfl (by rfl) (fun wv hS => by obtain ⟨s0, s1, s2, s3, s4, s5, s6, s7, s8, s9, s10, s11, s12, s13⟩ := hS; go_simp; try with_reducible rfl) ?_)
                    try simp only [Act.put, List.getElem_toArray, List.getElem_cons_succ, List.getElem_cons_zero, List.setIfInBounds_toArray, List.set_cons_zero, List.set_cons_succ]
                    first | (refine Wk.skip (m := 11) (k := 2) rfl (by rfl) ?_) | (refine Wk.step (m := 11) (k := 2) (v := _) rfl (by rfl) (fun wv hS => by obtain ⟨s0, s1, s2, s3, s4, s5, s6, s7, s8, s9, s10, s11, s12, s13⟩ := hS; go_simp; try with_reducible rfl) ?_)
                    try simp only [Act.put, List.getElem_toArray, List.getElem_cons_succ, List.getElem_cons_zero, List.setIfInBounds_toArray, List.set_cons_zero, List.set_cons_succ]
                    first | (refine Wk.skip (m := 10) (k := 3) rfl (by rfl) ?_) | (refine Wk.step (m := 10) (k := 3) (v := _) rfl (by rfl) (fun wv hS => by obtain ⟨s0, s1, s2, s3, s4, s5, s6, s7, s8, s9, s10, s11, s12, s13⟩ := hS; go_simp; try with_reducible rfl) ?_)
                    try simp only [Act.put, List.getElem_toArray, List.getElem_cons_succ, List.getElem_cons_zero, List.setIfInBounds_toArray, List.set_cons_zero, List.set_cons_succ]
                    first | (refine Wk.skip (m := 9) (k := 4) rfl (by rfl) ?_) | (refine Wk.step (m := 9) (k := 4) (v := _) rfl (by rfl) (fun wv hS => by obtain ⟨s0, s1, s2, s3, s4, s5, s6, s7, s8, s9, s10, s11, s12, s13⟩ := hS; go_simp; try with_reducible rfl) ?_)
                    try simp only [Act.put, List.getElem_toArray, List.getElem_cons_succ, List.getElem_cons_zero, List.setIfInBounds_toArray, List.set_cons_zero, List.set_cons_succ]
                    first | (refine Wk.skip (m := 8) (k := 5) rfl (by rfl) ?_) | (refine Wk.step (m := 8) (k := 5) (v := _) rfl (by rfl) (fun wv hS => by obtain ⟨s0, s1, s2, s3, s4, s5, s6, s7, s8, s9, s10, s11, s12, s13⟩ := hS; go_simp; try with_reducible rfl) ?_)
                    try simp only [Act.put, List.getElem_toArray, List.getElem_cons_succ, List.getElem_cons_zero, List.setIfInBounds_toArray, List.set_cons_zero, List.set_cons_succ]
                    first | (refine Wk.skip (m := 7) (k := 6) rfl (by rfl) ?_) | (refine Wk.step (m := 7) (k := 6) (v := _) rfl (by rfl) (fun wv hS => by obtain ⟨s0, s1, s2, s3, s4, s5, s6, s7, s8, s9, s10, s11, s12, s13⟩ := hS; go_simp; try with_reducible rfl) ?_)
                    try simp only [Act.put, List.getElem_toArray, List.getElem_cons_succ, List.getElem_cons_zero, List.setIfInBounds_toArray, List.set_cons_zero, List.set_cons_succ]
                    first | (refine Wk.skip (m := 6) (k := 7) rfl (by rfl) ?_) | (refine Wk.step (m := 6) (k := 7) (v := _) rfl (by rfl) (fun wv hS => by obtain ⟨s0, s1, s2, s3, s4, s5, s6, s7, s8, s9, s10, s11, s12, s13⟩ := hS; go_simp; try with_reducible rfl) ?_)
                    try simp only [Act.put, List.getElem_toArray, List.getElem_cons_succ, List.getElem_cons_zero, List.setIfInBounds_toArray, List.set_cons_zero, List.set_cons_succ]
                    first | (refine Wk.skip (m := 5) (k := 8) rfl (by rfl) ?_) | (refine Wk.step (m := 5) (k := 8) (v := _) rfl (by rfl) (fun wv hS => by obtain ⟨s0, s1, s2, s3, s4, s5, s6, s7, s8, s9, s10, s11, s12, s13⟩ := hS; go_simp; try with_reducible rfl) ?_)
                    try simp only [Act.put, List.getElem_toArray, List.getElem_cons_succ, List.getElem_cons_zero, List.setIfInBounds_toArray, List.set_cons_zero, List.set_cons_succ]
                    first | (refine Wk.skip (m := 4) (k := 9) rfl (by rfl) ?_) | (refine Wk.step (m := 4) (k := 9) (v := _) rfl (by rfl) (fun wv hS => by obtain ⟨s0, s1, s2, s3, s4, s5, s6, s7, s8, s9, s10, s11, s12, s13⟩ := hS; go_simp; try with_reducible rfl) ?_)
                    try simp only [Act.put, List.getElem_toArray, List.getElem_cons_succ, List.getElem_cons_zero, List.setIfInBounds_toArray, List.set_cons_zero, List.set_cons_succ]
                    first | (refine Wk.skip (m := 3) (k := 10) rfl (by rfl) ?_) | (refine Wk.step (m := 3) (k := 10) (v := _) rfl (by rfl) (fun wv hS => by obtain ⟨s0, s1, s2, s3, s4, s5, s6, s7, s8, s9, s10, s11, s12, s13⟩ := hS; go_simp; try with_reducible rfl) ?_)
                    try simp only [Act.put, List.getElem_toArray, List.getElem_cons_succ, List.getElem_cons_zero, List.setIfInBounds_toArray, List.set_cons_zero, List.set_cons_succ]
                    refine Wk.call (m := 2) (k := 11) (v := .bool true) _ _ rfl (by rfl) (fun wv hS => by obtain ⟨s0, s1, s2, s3, s4, s5, s6, s7, s8, s9, s10, s11, s12, s13⟩ := hS; go_simp; first | done | exact ⟨rfl, rfl⟩ | with_reducible rfl) (fun wv hS => ?_) ?_; · obtain ⟨s0, s1, s2, s3, s4, s5, s6, s7, s8, s9, s10, s11, s12, s13⟩ := hS; refine (implFollows a0 a1 n0 c0 n1 c1 B zl y2 x wv (hl.mk (MR.trans s0) hB (.inr (Nat.le_refl _))) (Nat.le_trans hB (MR.trans s0).size) hn1).mono ?_; rintro e w' ⟨he, mm⟩; exact ⟨by rw [he, HFq.out], s0.trans mm, mm.cellAt s1, mm.cellAt s2, mm.cellAt s3, mm.cellAt s4, mm.cellAt s5, mm.cellAt s6, mm.cellAt s7, mm.cellAt s8, mm.cellAt s9, mm.cellAt s10, mm.cellAt s11, mm.cellAt s12, mm.cellAt s13⟩
                    try simp only [Act.put, List.getElem_toArray, List.getElem_cons_succ, List.getElem_cons_zero, List.setIfInBounds_toArray, List.set_cons_zero, List.set_cons_succ]
                    first | (refine Wk.skip (m := 1) (k := 12) rfl (by rfl) ?_) | (refine Wk.step (m := 1) (k := 12) (v := _) rfl (by rfl) (fun wv hS => by obtain ⟨s0, s1, s2, s3, s4, s5, s6, s7, s8, s9, s10, s11, s12, s13⟩ := hS; go_simp; try with_reducible rfl) ?_)
                    try simp only [Act.put, List.getElem_toArray, List.getElem_cons_succ, List.getElem_cons_zero, List.setIfInBounds_toArray, List.set_cons_zero, List.set_cons_succ]
                    first | (refine Wk.skip (m := 0) (k := 13) rfl (by rfl) ?_) | (refine Wk.step (m := 0) (k := 13) (v := _) rfl (by rfl) (fun wv hS => by obtain ⟨s0, s1, s2, s3, s4, s5, s6, s7, s8, s9, s10, s11, s12, s13⟩ := hS; go_simp; try with_reducible rfl) ?_)
                    try simp only [Act.put, List.getElem_toArray, List.getElem_cons_succ, List.getElem_cons_zero, List.setIfInBounds_toArray, List.set_cons_zero, List.set_cons_succ]
                    refine Wk.done fun wE hE => ?_
                    obtain ⟨mE, k0, k1, j2, q0, q1, q2, q3, q4, f0, f1, f2, f3, f4⟩ := hE
                    replace MR := MR.trans mE
                    replace hMX := hMX.trans mE
                    have hbE := World.block_lt_of_cell? _ _ q0
                    simp only at hbE
                    go_wp2_with fail
                    refine (implAddElement (seenS (ndAt zs) k) x.nd _).mono ?_
                    rintro e w' ⟨rfl, rfl⟩
                    go_wp2_with fail
                    go_roundw
                    case rel => exact ⟨rfl, k + 1, by omega, by go_num, congrArg (Value.int .i64) HV.out.symm, HE.out, hMX⟩
                    case measure => simp [intOf]; omega
              · have HE := Lib.hid (allN_stop (p := wfI n0 zl n1 zs) (n := n) (show (wfI n0 zl n1 zs) k = false by unfold wfI; rw [← hx.out]; rw [hA, hB2, hC]; rfl) hlt)
                have HC := Lib.hid (show inUp (ndAt zs) x.nd k = true from hC)
                clear hC hB2 hA
                go_wp2_with fail
                refine (implVHop x.nd x.ing x.eg x.exp x.mac _).mono ?_
                rintro e w3 ⟨he, m3⟩
                rw [HA.out] at he
                subst he
                replace k0 := m3.cellAt k0
                replace k1 := m3.cellAt k1
                replace j2 := m3.cellAt j2
                replace q0 := m3.cellAt q0
                replace q1 := m3.cellAt q1
                replace q2 := m3.cellAt q2
                replace q3 := m3.cellAt q3
                replace q4 := m3.cellAt q4
                have mE := m3
                have MB := MR.trans m3
                go_wp2_with fail
                refine (implIsAS a0 a1 n0 c0 n1 c1 x.nd _ hn0).mono ?_
                rintro e w4 ⟨he, m4⟩
                rw [HBq.out] at he
                subst he
                replace k0 := m4.cellAt k0
                replace k1 := m4.cellAt k1
                replace j2 := m4.cellAt j2
                replace q0 := m4.cellAt q0
                replace q1 := m4.cellAt q1
                replace q2 := m4.cellAt q2
                replace q3 := m4.cellAt q3
                replace q4 := m4.cellAt q4
                replace mE := m3.trans m4
                go_wp2_with fail
                refine (implContains (seenS (ndAt zs) k) x.nd _).mono ?_
                rintro e w5 ⟨he, rfl⟩
                rw [HH.out, HC.out] at he
                subst he
                go_wp2_with fail
                go_ret
                exact ⟨retB (by rw [HR.out, HE.out]), MR.trans mE⟩
        · obtain rfl : k = n := by omega
          go_wp2_with fail
          go_ret
          exact ⟨retB (by rw [HR.out, hS.out]), hM'⟩
  · have HR := Lib.hid (show wfB n0 zl n1 zs n = false by unfold wfB; rw [decide_eq_false hr]; rfl)
    have HN := Lib.hid (show (n : Int) < 1 ∨ (8 : Int) < (n : Int) by omega)
    clear hr
    go_enter Tryz.func56, Tryz.ntmps56
    go_wp2_with fail
    refine (implInNo _ _ _ _ HN.out).mono ?_
    rintro e w' ⟨rfl, rfl⟩
    go_wp2_with fail
    go_ret
    exact ⟨retB HR.out.symm, M0⟩

end Go.Proofs.YtdhdkhnefnbdgaaGreatDoor
