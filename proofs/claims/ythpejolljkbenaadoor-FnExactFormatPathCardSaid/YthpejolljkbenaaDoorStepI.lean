
/- The steps of a path, by the program. -/
import Derived.Test.YthpejolljkbenaaDoorStepMath
import Derived.Test.YthpejolljkbenaaDoorCPath
import Derived.Test.YthpejolljkbenaaDoorRet
import Derived.Test.YthpejolljkbenaaDoorInfo
import Derived.Deep.RegionHeld3
import Derived.Laws.StructEq
import Derived.ChangeKeysEq
import Derived.StillTailTactics
namespace Go.Proofs.YthpejolljkbenaaDoor
open Go.ChangeShapes Go.WideShapes Go.ChangeAt Go.RowKit
set_option linter.unusedVariables false
theorem infoRstp : (Tryd.prog.info? 96).map (fun i => (i.zero, i.size, i.bytes)) = some (some (.agg #[.int .i64 0, .int .i64 0, .int .i64 0]), 3, 24) := by kernel_rfl
theorem eqArr (x y : Int) (w : World) : (Op.equalIn 10000 96 (.agg #[.int .i64 x, .int .i64 0, .int .i64 0]) (.agg #[.int .i64 y, .int .i64 0, .int .i64 0])).run Tryd.prog w = .ok (x == y) w := by
  obtain ⟨i0, hi0, hz0, hz1, hz2⟩ := info_parts infoI64
  have hp : Tryd.prog.plainKey 3 = true := by kernel_rfl
  have hc : Tryd.prog.cellsOf 3 = 1 := by kernel_rfl
  rw [run_equalIn_array w 9999 _ _ Tryd.underlying96 hi0, show List.range 3 = [0, 1, 2] from rfl, hc]
  have P0 : ∀ z : Int, (part 3 #[Value.int .i64 z, .int .i64 0, .int .i64 0] 0).run Tryd.prog w = .ok (.int .i64 z) w := fun z => run_part_plain w hp rfl
  have P1 : ∀ z : Int, (part 3 #[Value.int .i64 z, .int .i64 0, .int .i64 0] 1).run Tryd.prog w = .ok (.int .i64 0) w := fun z => run_part_plain w hp rfl
  have P2 : ∀ z : Int, (part 3 #[Value.int .i64 z, .int .i64 0, .int .i64 0] 2).run Tryd.prog w = .ok (.int .i64 0) w := fun z => run_part_plain w hp rfl
  have Q : ∀ a b : Int, (Op.equalIn 9999 3 (.int .i64 a) (.int .i64 b)).run Tryd.prog w = .ok (a == b) w := fun a b => run_equalIn_int w 9998 3 .i64 .i64 a b Tryd.underlying3
  cases h : (x == y) <;> simp [Op.eqItems, P0, P1, P2, Q, h]
set_option maxRecDepth 100000 in
set_option maxHeartbeats 4000000 in
theorem implWoI (a b c : Int) (w : World) : Calls Tryd.prog 83 #[.agg #[.int .i64 a, .int .i64 b, .int .i64 c]] w fun e w' => e = .returned (.agg #[.int .i64 a, .int .i64 0, .int .i64 0]) ∧ Mk0 w w' := by
  go_enter Tryd.func83, Tryd.ntmps83
  go_wp2_with fail
  refine bodyPost_ret (v := .agg #[.int .i64 a, .int .i64 0, .int .i64 0]) (by simp [results, Tryd.results83, go_sem]) rfl ⟨rfl, Mk.of_below ?_⟩
  go_grown

set_option maxRecDepth 100000 in
set_option maxHeartbeats 4000000 in
theorem implSoP (x0 x1 x2 : Int) (a : Option Addr) (n c B : Nat) (zs : List THop) (w : World) (h : HasHop w B a n zs) (hB : B ≤ w.heap.size) (hn : n ≤ 1048576) :
    Calls Tryd.prog 73 #[.agg #[.int .i64 x0, .int .i64 x1, .int .i64 x2, .slice a n c]] w (OutRows 3 TStep.cell w (stL (⟨x0, x1, x2, zs⟩ : TPathPart) n)) := by
  obtain ⟨i0, hi0, hz0, hz1, hz2⟩ := info_parts infoRstp
  have M0 := Mk.alloc w (Obj.cells #[Value.int .i64 x0, Value.int .i64 x1, Value.int .i64 x2, Value.slice a n c] 121)
  have HL := Lib.hid h.1
  go_enter Tryd.func73, Tryd.ntmps73
  go_wp2_with fail
  have hl0 := own_emptyR (w.alloc (Obj.cells #[Value.int .i64 x0, Value.int .i64 x1, Value.int .i64 x2, Value.slice a n c] 121)) 96 3
  have ML := Mk.alloc (w.alloc (Obj.cells #[Value.int .i64 x0, Value.int .i64 x1, Value.int .i64 x2, Value.slice a n c] 121)) (.cells #[] 96)
  go_loopw [3, 12] (fun v i wr => ∃ k : Nat, k ≤ n ∧ i = .int .i64 k ∧ wr.ownsRow (w.alloc (Obj.cells #[Value.int .i64 x0, Value.int .i64 x1, Value.int .i64 x2, Value.slice a n c] 121)).heap.size 96 3 v k (rowC 3 TStep.cell (stL (⟨x0, x1, x2, zs⟩ : TPathPart) k)) ∧ Mk0 (w.alloc (Obj.cells #[Value.int .i64 x0, Value.int .i64 x1, Value.int .i64 x2, Value.slice a n c] 121)) wr) (fun _ i _ => n - (intOf i).toNat)
  case atStart => exact ⟨0, Nat.zero_le _, rfl, by simpa [stL, rowC] using hl0, ML⟩
  case round =>
    clear hl0 ML
    obtain ⟨k, hk, rfl, hown, hP⟩ := hrel
    have hM := M0.trans hP
    have k0 := hP.cellAt (b := w.heap.size) (o := 0) (v := .int .i64 x0) (by simp [go_sem])
    have k1 := hP.cellAt (b := w.heap.size) (o := 1) (v := .int .i64 x1) (by simp [go_sem])
    have k2 := hP.cellAt (b := w.heap.size) (o := 2) (v := .int .i64 x2) (by simp [go_sem])
    have k3 := hP.cellAt (b := w.heap.size) (o := 3) (v := .slice a n c) (by simp [go_sem])
    have hbp := World.block_lt_of_cell? _ _ k0
    simp only at hbp
    by_cases hlt : k < n
    · obtain ⟨b, off, y, rfl, hb, hx, c0, c1, c2, c3, c4⟩ := HasHop.at _ _ _ _ _ _ (h.mk hM hB (.inr (Nat.le_refl _))) hlt
      have hbr := World.block_lt_of_cell? _ _ c0
      simp only at hbr
      have MH := Mk.alloc wr (Obj.cells #[Value.int .i64 y.nd, Value.int .i64 y.ing, Value.int .i64 y.eg, Value.int .i64 y.exp, Value.int .i64 y.mac] 79)
      have HE := Lib.hid (show stL (⟨x0, x1, x2, zs⟩ : TPathPart) (k + 1) = stL (⟨x0, x1, x2, zs⟩ : TPathPart) k ++ [⟨y.nd, pInV x0 zs n k, pOutV x0 zs n k⟩] by rw [stL, stOf]; simp only; rw [← hx.out, HL.out])
      have d0 : (wr.alloc (Obj.cells #[Value.int .i64 y.nd, Value.int .i64 y.ing, Value.int .i64 y.eg, Value.int .i64 y.exp, Value.int .i64 y.mac] 79)).cell? ⟨wr.heap.size, 0, none⟩ = some (.int .i64 y.nd) := by simp [go_sem]
      replace k0 := MH.cellAt k0
      replace k1 := MH.cellAt k1
      replace k2 := MH.cellAt k2
      replace k3 := MH.cellAt k3
      have M1 := hM.trans MH
      have P1 := hP.trans MH
      go_wp2_with fail
      refine (implDoors x0 x1 x2 (some ⟨b, off, none⟩) n c B zs k _ (h.mk M1 hB (.inr (Nat.le_refl _))) (Nat.le_trans hB M1.size) hn).mono ?_
      rintro e w2 ⟨rfl, m2⟩
      have M2 := M1.trans m2
      replace d0 := m2.cellAt d0
      replace k0 := m2.cellAt k0
      replace k1 := m2.cellAt k1
      replace k2 := m2.cellAt k2
      replace k3 := m2.cellAt k3
      have ho2 := own_keptR (own_keptR hown MH) m2
      have MX := Mk.alloc w2 (Obj.cells #[Value.int .i64 y.nd, Value.int .i64 (pInV x0 zs n k), Value.int .i64 (pOutV x0 zs n k)] 96)
      have ho3 := own_keptR ho2 MX
      have hh3 := hasR_new (cell := TStep.cell) (nc := 3) (by decide) w2 96 ⟨y.nd, pInV x0 zs n k, pOutV x0 zs n k⟩ #[Value.int .i64 y.nd, Value.int .i64 (pInV x0 zs n k), Value.int .i64 (pOutV x0 zs n k)] (fun j hj => by match j, hj with | 0, _ => rfl | 1, _ => rfl | 2, _ => rfl)
      have P2 := (P1.trans m2).trans MX
      have hlo := P2.size
      have hbp2 := World.block_lt_of_cell? _ _ k0
      simp only at hbp2
      go_wp2_with (at_builtin; refine wpList_appR (by decide) oneStep rfl (.tmp 23) (.tmp 29) 93 rfl _ 96 i0 _ Tryd.underlying93 hi0 hz0 rfl hz1 (by rw [hz2]; decide) _ (stL (⟨x0, x1, x2, zs⟩ : TPathPart) k) k rfl ho3 _ 1 1 [⟨y.nd, pInV x0 zs n k, pOutV x0 zs n k⟩] rfl (fun h => by cases h) hh3 (by omega) hlo ?_; intro v2 w3 hown2 hgr2)
      have M3 := P2.appR hgr2 (fun g hg => (ho3.lt g hg).1)
      go_wp2_with fail
      go_roundw
      case rel => exact ⟨k + 1, by omega, by go_num, by rw [HE.out]; exact hown2, M3⟩
      case measure => simp [intOf]; omega
    · obtain rfl : k = n := by omega
      go_wp2_with fail
      go_ret
      exact OutRows.of (by decide) (own_lowR hown M0.size) hM

set_option maxRecDepth 100000 in
set_option maxHeartbeats 4000000 in
theorem implMeet (a a' : Option Addr) (n n' c c' B B' : Nat) (zs zs' : List TStep) (w : World) (h : HasStep w B a n zs) (h' : HasStep w B' a' n' zs') (hB : B ≤ w.heap.size) (hB' : B' ≤ w.heap.size) (hn : n ≤ 2097152) (hn' : n' ≤ 2097152) :
    Calls Tryd.prog 74 #[.slice a n c, .slice a' n' c'] w fun e w' => e = .returned (.bool (meetB zs zs')) ∧ Mk0 w w' := by
  have hl := h.1
  have hl' := h'.1
  by_cases g1 : n = 0
  · subst g1
    have HR := Lib.hid (show meetB zs zs' = false by unfold meetB; rw [hl]; simp)
    go_enter Tryd.func74, Tryd.ntmps74
    go_wp2_with fail
    go_quiet (fail)
    go_wp2_with fail
    go_ret
    exact ⟨retB HR.out.symm, Mk.drewN _ _⟩
  · have q1 : (0 : Int) < (n : Int) := by omega
    have d1 : decide (0 < n) = true := by simp; omega
    have e1 : 0 < n := by omega
    by_cases g2 : n' = 0
    · subst g2
      have HR := Lib.hid (show meetB zs zs' = false by unfold meetB; rw [hl']; simp)
      go_enter Tryd.func74, Tryd.ntmps74
      go_wp2_with fail
      go_quiet (fail)
      go_wp2_with fail
      go_ret
      exact ⟨retB HR.out.symm, Mk.drewN _ _⟩
    · have q2 : (0 : Int) < (n' : Int) := by omega
      have d2 : decide (0 < n') = true := by simp; omega
      have e2 : 0 < n' := by omega
      obtain ⟨m, hm⟩ : ∃ m, Hid (n = m + 1) := ⟨n - 1, by show n = n - 1 + 1; omega⟩
      obtain ⟨b, off, x, rfl, hb, hx, c0, c1, c2⟩ := HasStep.at _ _ _ _ _ _ h (show m < n by have := hm.out; omega)
      have hw : IntKind.i64.wrap ((n : Int) - 1) = (m : Int) := by have := hm.out; rw [show (n : Int) - 1 = (m : Int) by omega]; rw [IntKind.wrap_i64]; omega
      obtain ⟨b', off', y, rfl, hb', hy, d0, d1', d2'⟩ := HasStep.at _ _ _ _ _ _ h' (show 0 < n' by omega)
      simp only [Nat.zero_mul, Nat.add_zero] at d0 d1' d2'
      have hlx : lastS zs = x := by unfold lastS; rw [hl, hm.out, Nat.add_sub_cancel, hx.out]
      cases e0 : (x.nd == y.nd)
      · have HR := Lib.hid (show meetB zs zs' = false by unfold meetB; rw [hl, hl', hlx, ← hy.out, e0]; simp; try omega)
        have i0 : (0 : Int) ≤ (m : Int) := by omega
        have i1 : (m : Int) < (n : Int) := by have := hm.out; omega
        have heq : ∀ w', (Op.equalIn 10000 96 (.agg #[.int .i64 x.nd, .int .i64 0, .int .i64 0]) (.agg #[.int .i64 y.nd, .int .i64 0, .int .i64 0])).run Tryd.prog w' = .ok false w' := fun w' => by rw [eqArr, e0]
        go_enter Tryd.func74, Tryd.ntmps74
        go_wp2_with fail
        go_region_held3 (fun w' => Mk0 w w' ∧ w'.cell? ⟨b, off + m * 3, none⟩ = some (.int .i64 x.nd) ∧ w'.cell? ⟨b, off + m * 3 + 1, none⟩ = some (.int .i64 x.ing) ∧ w'.cell? ⟨b, off + m * 3 + 2, none⟩ = some (.int .i64 x.eg) ∧ w'.cell? ⟨b', off', none⟩ = some (.int .i64 y.nd) ∧ w'.cell? ⟨b', off' + 1, none⟩ = some (.int .i64 y.ing) ∧ w'.cell? ⟨b', off' + 2, none⟩ = some (.int .i64 y.eg)) (first | exact ⟨Mk.drew1 _, c0, c1, c2, d0, d1', d2'⟩ | (obtain ⟨s0, s1, s2, s3, s4, s5, s6⟩ := ‹Mk0 w _ ∧ _›; exact ⟨s0.trans mm, mm.cellAt s1, mm.cellAt s2, mm.cellAt s3, mm.cellAt s4, mm.cellAt s5, mm.cellAt s6⟩)) (first | (go_at_call 83; with_reducible refine (implWoI x.nd x.ing x.eg _).mono ?_; rintro e wx ⟨rfl, mx⟩; have mm := mx) | (go_at_call 83; with_reducible refine (implWoI y.nd y.ing y.eg _).mono ?_; rintro e wy ⟨rfl, my⟩; have mm := my))
        go_wp2_with fail
        go_ret
        exact ⟨retB HR.out.symm, ‹Mk0 w _ ∧ _›.1⟩
      · have HR := Lib.hid (show meetB zs zs' = true by unfold meetB; rw [hl, hl', hlx, ← hy.out, e0]; simp; try omega)
        have i0 : (0 : Int) ≤ (m : Int) := by omega
        have i1 : (m : Int) < (n : Int) := by have := hm.out; omega
        have heq : ∀ w', (Op.equalIn 10000 96 (.agg #[.int .i64 x.nd, .int .i64 0, .int .i64 0]) (.agg #[.int .i64 y.nd, .int .i64 0, .int .i64 0])).run Tryd.prog w' = .ok true w' := fun w' => by rw [eqArr, e0]
        go_enter Tryd.func74, Tryd.ntmps74
        go_wp2_with fail
        go_region_held3 (fun w' => Mk0 w w' ∧ w'.cell? ⟨b, off + m * 3, none⟩ = some (.int .i64 x.nd) ∧ w'.cell? ⟨b, off + m * 3 + 1, none⟩ = some (.int .i64 x.ing) ∧ w'.cell? ⟨b, off + m * 3 + 2, none⟩ = some (.int .i64 x.eg) ∧ w'.cell? ⟨b', off', none⟩ = some (.int .i64 y.nd) ∧ w'.cell? ⟨b', off' + 1, none⟩ = some (.int .i64 y.ing) ∧ w'.cell? ⟨b', off' + 2, none⟩ = some (.int .i64 y.eg)) (first | exact ⟨Mk.drew1 _, c0, c1, c2, d0, d1', d2'⟩ | (obtain ⟨s0, s1, s2, s3, s4, s5, s6⟩ := ‹Mk0 w _ ∧ _›; exact ⟨s0.trans mm, mm.cellAt s1, mm.cellAt s2, mm.cellAt s3, mm.cellAt s4, mm.cellAt s5, mm.cellAt s6⟩)) (first | (go_at_call 83; with_reducible refine (implWoI x.nd x.ing x.eg _).mono ?_; rintro e wx ⟨rfl, mx⟩; have mm := mx) | (go_at_call 83; with_reducible refine (implWoI y.nd y.ing y.eg _).mono ?_; rintro e wy ⟨rfl, my⟩; have mm := my))
        go_wp2_with fail
        go_ret
        exact ⟨retB HR.out.symm, ‹Mk0 w _ ∧ _›.1⟩

set_option maxRecDepth 100000 in
set_option maxHeartbeats 4000000 in
theorem implStepsOf (a : Option Addr) (n c B : Nat) (ps : List TPathPart) (w : World) (h : HasPathPart w B a n ps) (hB : B ≤ w.heap.size) (hn : szPathPart ps n ≤ 1048576) :
    Calls Tryd.prog 47 #[.agg #[.slice a n c]] w (OutRows 3 TStep.cell w (pathSt ps n)) := by
  have hn0 : n ≤ 1048576 := Nat.le_trans (szPathPart_n ps n) hn
  have M0 := Mk.alloc w (Obj.cells #[Value.slice a n c] 53)
  obtain ⟨i0, hi0, hz0, hz1, hz2⟩ := info_parts infoRstp
  go_enter Tryd.func47, Tryd.ntmps47
  go_wp2_with fail
  have hl0 := own_emptyR (w.alloc (Obj.cells #[Value.slice a n c] 53)) 96 3
  have ML := Mk.alloc (w.alloc (Obj.cells #[Value.slice a n c] 53)) (.cells #[] 96)
  go_loopw [3, 11] (fun v i wr => ∃ k : Nat, k ≤ n ∧ i = .int .i64 k ∧ wr.ownsRow (w.alloc (Obj.cells #[Value.slice a n c] 53)).heap.size 96 3 v (stepsUp ps k).length (rowC 3 TStep.cell (stepsUp ps k)) ∧ Mk0 (w.alloc (Obj.cells #[Value.slice a n c] 53)) wr) (fun _ i _ => n - (intOf i).toNat)
  case atStart => exact ⟨0, Nat.zero_le _, rfl, by simpa [stepsUp, rowC] using hl0, ML⟩
  case round =>
    clear hl0 ML
    obtain ⟨k, hk, rfl, hown, hM⟩ := hrel
    have hM' := M0.trans hM
    have hbd := stepsUp_le ps k
    have hbd2 := sumTo_le sePathPart ps hk
    obtain ⟨L, hL⟩ : ∃ L, Hid (L = (stepsUp ps k).length) := ⟨_, rfl⟩
    rw [← hL.out] at hown hbd
    obtain ⟨A, cc, rfl, hA0⟩ := ownsRow_sliceR hown
    have hLb : L ≤ 1048576 := by unfold szPathPart at hn; omega
    by_cases hlt : k < n
    · obtain ⟨b, off, x, rfl, hb, hx, a3, n3, c3, d0, d1, d2, d3, r3, m3, t3, z3⟩ := HasPathPart.at _ _ _ _ _ _ (h.mk hM' hB (.inr (Nat.le_refl _))) hlt
      have hbr := World.block_lt_of_cell? _ _ d0
      simp only at hbr
      have hs3 : sumTo sePathPart ps k + n3 ≤ 1048576 := by
        have h1 := sumTo_le sePathPart ps (show k + 1 ≤ n from hlt)
        rw [sumTo, ← hx.out] at h1
        unfold sePathPart at h1
        rw [r3.1] at h1
        unfold szPathPart sePathPart at hn
        unfold sePathPart
        omega
      have MX := Mk.alloc wr (Obj.cells #[Value.int .i64 x.kind, Value.int .i64 x.ts, Value.int .i64 x.beta, Value.slice a3 n3 c3] 121)
      have hB1 := Nat.le_trans hB (hM'.trans MX).size
      have HE0 := Lib.hid (show stepsUp ps (k + 1) = joinS (stepsUp ps k) (stL x n3) by rw [stepsUp, ← hx.out, r3.1])
      have q0 : (wr.alloc (Obj.cells #[Value.int .i64 x.kind, Value.int .i64 x.ts, Value.int .i64 x.beta, Value.slice a3 n3 c3] 121)).cell? ⟨wr.heap.size, 0, none⟩ = some (.int .i64 x.kind) := by simp [go_sem]
      go_wp2_with fail
      refine (implSoP x.kind x.ts x.beta a3 n3 c3 B x.hops _ (r3.mk MX (Nat.le_trans hB hM'.size) (.inr (Nat.le_refl _))) hB1 (by omega)).mono ?_
      rintro e w2 ⟨A2, N2, c2, rfl, hc2, o2, m2⟩
      obtain rfl : N2 = n3 := o2.1.symm.trans (stL_len _ _)
      have ho2 := own_keptR (own_keptR hown MX) m2
      have M2 := (hM.trans MX).trans m2
      have hsz2 := m2.size
      rw [World.size_alloc] at hsz2
      cases hm : meetB (stepsUp ps k) (stL x N2)
      · have HE := Lib.hid (show stepsUp ps (k + 1) = stepsUp ps k ++ stL x N2 by rw [HE0.out]; unfold joinS; rw [if_neg (by rw [hm]; decide)])
        have HM := Lib.hid hm
        go_wp2_with fail
        refine (implMeet _ _ L N2 _ _ _ _ (stepsUp ps k) (stL x N2) _ (ownsRow_ownR (by decide) ho2).has o2.has (Nat.le_refl _) (Nat.le_refl _) (by omega) (by omega)).mono ?_
        rintro e w4 ⟨he, m4⟩
        rw [HM.out] at he
        subst he
        have ho4 := own_keptR ho2 m4
        have hh4 := (o2.has.mk m4 (Nat.le_refl _) (.inr (Nat.le_refl _))).mono m4.size
        have hlo := (M2.trans m4).size
        go_wp2_with (at_builtin; refine wpList_appR (by decide) oneStep rfl (.tmp 32) (.tmp 33) 93 rfl _ 96 i0 _ Tryd.underlying93 hi0 hz0 rfl hz1 (by rw [hz2]; decide) _ (stepsUp ps k) L rfl ho4 A2 N2 c2 (stL x N2) rfl hc2.1 hh4 (by omega) hlo ?_; intro v2 w5 hown2 hgr2)
        have M5 := (M2.trans m4).appR hgr2 (fun g hg => (ho4.lt g hg).1)
        go_wp2_with fail
        go_roundw
        case rel => exact ⟨k + 1, by omega, by go_num, by rw [HE.out, List.length_append, stL_len, ← hL.out]; exact hown2, M5⟩
        case measure => simp [intOf]; omega
      · have HM := Lib.hid hm
        have hpos := meet_pos hm
        rw [stL_len, ← hL.out] at hpos
        obtain ⟨m, hmL⟩ : ∃ m, Hid (L = m + 1) := ⟨L - 1, by show L = L - 1 + 1; omega⟩
        obtain ⟨q, hq⟩ : ∃ q, Hid (N2 = q + 1) := ⟨N2 - 1, by show N2 = N2 - 1 + 1; omega⟩
        obtain ⟨g, rfl⟩ : ∃ g, A = some ⟨g, 0, none⟩ := by
          rcases ho2.2 with ⟨h', h0⟩ | ⟨g, cap, cur, h', _⟩
          · omega
          · simp only [Value.slice.injEq] at h'
            exact ⟨g, h'.1⟩
        have hg := hown.lt g rfl
        obtain ⟨b2, off2, y, rfl, hb2, hy, e0, e1, e2⟩ := HasStep.at _ _ _ _ _ _ o2.has (show 0 < N2 by omega)
        simp only [Nat.zero_mul, Nat.add_zero] at e0 e1 e2
        have hcl : w2.cell? ⟨g, m * 3 + 2, none⟩ = some (.int .i64 (lastS (stepsUp ps k)).eg) := by
          have hh := hmL.out
          have hh2 := hL.out
          rw [ho2.cellAt (m * 3 + 2) (by omega), rowC_get (by decide) _ _ (by omega), flat_at _ m 2 (by decide)]
          unfold lastS
          rw [← hh2, hh]
          rfl
        have hfl : w2.frozen? ⟨g, m * 3 + 2, none⟩ = false := ho2.frozenAt _
        have hw : IntKind.i64.wrap ((L : Int) - 1) = (m : Int) := by have := hmL.out; rw [show (L : Int) - 1 = (m : Int) by omega]; rw [IntKind.wrap_i64]; omega
        have i1 : (0 : Int) ≤ (m : Int) := by omega
        have i2 : (m : Int) < (L : Int) := by have := hmL.out; omega
        have i3 : (0 : Int) < (N2 : Int) := by omega
        have HE := Lib.hid (show stepsUp ps (k + 1) = (stepsUp ps k).set m ⟨(lastS (stepsUp ps k)).nd, (lastS (stepsUp ps k)).ing, y.eg⟩ ++ (stL x N2).tail by
          have hh := hmL.out
          have hh2 := hL.out
          rw [HE0.out]
          unfold joinS
          rw [if_pos hm, ← hy.out, show m = (stepsUp ps k).length - 1 by omega, glue_set _ _ (by omega), List.append_assoc]
          rfl)
        go_wp2_with fail
        refine (implMeet _ _ L N2 _ _ _ _ (stepsUp ps k) (stL x N2) _ (ownsRow_ownR (by decide) ho2).has o2.has (Nat.le_refl _) (Nat.le_refl _) (by omega) (by omega)).mono ?_
        rintro e w4 ⟨he, m4⟩
        rw [HM.out] at he
        subst he
        have ho4 := own_keptR ho2 m4
        have M4 := M2.trans m4
        have f0 := m4.cellAt e2
        have f1 := m4.cellAt hcl
        have f2 := m4.frozenAt hcl hfl
        clear e0 e1 e2 hcl hfl
        go_wp2_with fail
        go_still_tail 10, (by kernel_rfl)
        change wpList _ _ _ _ _ w4.drew
        have M5 := M4.trans (Mk.drew1 w4)
        replace f0 := (Mk.drew1 w4).cellAt f0
        replace f2 := (Mk.drew1 w4).frozenAt f1 f2
        replace f1 := (Mk.drew1 w4).cellAt f1
        have ho5 := own_keptR ho4 (Mk.drew1 w4)
        have o5 := (o2.mk m4 (Nat.le_refl _) (.inr (.inr (Nat.le_refl _)))).mk (Mk.drew1 w4) m4.size (.inr (.inr (Nat.le_refl _)))
        have z4 := m4.size
        have z5 : w4.drew.heap.size = w4.heap.size := rfl
        generalize w4.drew = w5 at *
        obtain ⟨hs1, hs2⟩ := ho5.stored (m * 3 + 2) (.int .i64 y.eg)
        rw [rowC_set (stepsUp ps k) m 2 ⟨(lastS (stepsUp ps k)).nd, (lastS (stepsUp ps k)).ing, y.eg⟩ _ (by have := hmL.out; have := hL.out; omega) (by decide) (fun q hq => by
          have hh := hmL.out
          have hh2 := hL.out
          have e : (stepsUp ps k).getD m default = lastS (stepsUp ps k) := by unfold lastS; rw [← hh2, hh]; rfl
          rw [e]
          match q, hq with
          | 0, _ => rfl
          | 1, _ => rfl
          | 2, _ => rfl)] at hs1
        have M6 := M5.appR hs2 (fun q hq => by cases hq; exact hg.1)
        have o6 := o5.set ⟨g, m * 3 + 2, none⟩ (.int .i64 y.eg) (.inl (by rw [World.size_alloc]; simp only; omega))
        have z6 : (w5.setCell ⟨g, m * 3 + 2, none⟩ (.int .i64 y.eg)).heap.size = w5.heap.size := World.size_set _ _ _
        have hh6 := o6.has.mono (B' := (w5.setCell ⟨g, m * 3 + 2, none⟩ (.int .i64 y.eg)).heap.size) (by rw [z6, z5]; exact m4.size)
        have hlo := M6.size
        have hcn := hc2.2
        have HT := Lib.hid (show (stL x N2).tail.length = N2 - 1 by rw [List.length_tail, stL_len])
        have HS := Lib.hid (show ((stepsUp ps k).set m ⟨(lastS (stepsUp ps k)).nd, (lastS (stepsUp ps k)).ing, y.eg⟩).length = L by rw [List.length_set, ← hL.out])
        by_cases hc1 : c2 = 1
        · have ht := tail_row (n := N2 - 1) (A := some ⟨b2, off2, none⟩) (show HasStep _ _ (some ⟨b2, off2, none⟩) (N2 - 1 + 1) (stL x N2) by rw [show N2 - 1 + 1 = N2 by omega]; exact hh6) (fun h => by omega)
          go_wp2_with (at_builtin; refine wpList_appR (by decide) oneStep rfl (.tmp 32) (.tmp 33) 93 rfl _ 96 i0 _ Tryd.underlying93 hi0 hz0 rfl hz1 (by rw [hz2]; decide) _ _ L rfl hs1 _ (N2 - 1) _ (stL x N2).tail rfl (fun h => by cases h) ht (by omega) hlo ?_; intro v2 w7 hown2 hgr2)
          have M7 := M6.appR hgr2 (fun g hg => (hs1.lt g hg).1)
          go_wp2_with fail
          go_roundw
          case rel => exact ⟨k + 1, by omega, by go_num, by rw [HE.out, List.length_append, HS.out, HT.out]; exact hown2, M7⟩
          case measure => simp [intOf]; omega
        · have ht := tail_row (n := N2 - 1) (A := some ⟨b2, off2 + 3, none⟩) (show HasStep _ _ (some ⟨b2, off2, none⟩) (N2 - 1 + 1) (stL x N2) by rw [show N2 - 1 + 1 = N2 by omega]; exact hh6) (fun h => rfl)
          go_wp2_with (at_builtin; refine wpList_appR (by decide) oneStep rfl (.tmp 32) (.tmp 33) 93 rfl _ 96 i0 _ Tryd.underlying93 hi0 hz0 rfl hz1 (by rw [hz2]; decide) _ _ L rfl hs1 _ (N2 - 1) _ (stL x N2).tail rfl (fun h => by cases h) ht (by omega) hlo ?_; intro v2 w7 hown2 hgr2)
          have M7 := M6.appR hgr2 (fun g hg => (hs1.lt g hg).1)
          go_wp2_with fail
          go_roundw
          case rel => exact ⟨k + 1, by omega, by go_num, by rw [HE.out, List.length_append, HS.out, HT.out]; exact hown2, M7⟩
          case measure => simp [intOf]; omega
    · obtain rfl : k = n := by omega
      rcases Nat.eq_zero_or_pos L with h0 | hpos
      · subst h0
        have HP := Lib.hid (show pathSt ps k = stepsUp ps k by unfold pathSt finS; rw [if_pos hL.out.symm])
        go_wp2_with fail
        go_ret
        exact OutRows.of (by decide) (own_lowR (by rw [HP.out]; exact hown) M0.size) hM'
      · obtain ⟨m, hmL⟩ : ∃ m, Hid (L = m + 1) := ⟨L - 1, by show L = L - 1 + 1; omega⟩
        obtain ⟨g, rfl⟩ : ∃ g, A = some ⟨g, 0, none⟩ := by
          rcases hown.2 with ⟨h', h0⟩ | ⟨g, cap, cur, h', _⟩
          · omega
          · simp only [Value.slice.injEq] at h'
            exact ⟨g, h'.1⟩
        have hg := hown.lt g rfl
        have c1 : wr.cell? ⟨g, 1, none⟩ = some (.int .i64 ((stepsUp ps k).getD 0 default).ing) := by
          have hh2 := hL.out
          rw [hown.cellAt 1 (by omega), rowC_get (by decide) _ _ (by omega)]
          rfl
        have c2 : wr.cell? ⟨g, m * 3 + 2, none⟩ = some (.int .i64 ((stepsUp ps k).getD m default).eg) := by
          have hh := hmL.out
          have hh2 := hL.out
          rw [hown.cellAt (m * 3 + 2) (by omega), rowC_get (by decide) _ _ (by omega), flat_at _ m 2 (by decide)]
          rfl
        have f1 : wr.frozen? ⟨g, 1, none⟩ = false := hown.frozenAt _
        have c3 := cell_set c2 ⟨g, 1, none⟩ (.int .i64 0) (.inr (by simp only; omega))
        have f3 : (wr.setCell ⟨g, 1, none⟩ (.int .i64 0)).frozen? ⟨g, m * 3 + 2, none⟩ = false := frozen_set (hown.frozenAt _) _ _
        have hw : IntKind.i64.wrap ((L : Int) - 1) = (m : Int) := by have := hmL.out; rw [show (L : Int) - 1 = (m : Int) by omega]; rw [IntKind.wrap_i64]; omega
        have i1 : (0 : Int) ≤ (m : Int) := by omega
        have i2 : (m : Int) < (L : Int) := by have := hmL.out; omega
        have i3 : (0 : Int) < (L : Int) := by omega
        obtain ⟨hs1, hs2⟩ := hown.stored (0 * 3 + 1) (.int .i64 0)
        rw [rowC_set (stepsUp ps k) 0 1 ⟨((stepsUp ps k).getD 0 default).nd, 0, ((stepsUp ps k).getD 0 default).eg⟩ _ (by have := hL.out; omega) (by decide) (fun q hq => by
          match q, hq with
          | 0, _ => rfl
          | 1, _ => rfl
          | 2, _ => rfl)] at hs1
        rw [show (stepsUp ps k).set 0 ⟨((stepsUp ps k).getD 0 default).nd, 0, ((stepsUp ps k).getD 0 default).eg⟩ = fin1 (stepsUp ps k) from rfl] at hs1
        obtain ⟨hs3, hs4⟩ := hs1.stored (m * 3 + 2) (.int .i64 0)
        rw [rowC_set (fin1 (stepsUp ps k)) m 2 ⟨(lastS (fin1 (stepsUp ps k))).nd, (lastS (fin1 (stepsUp ps k))).ing, 0⟩ _ (by rw [fin1_len]; have := hmL.out; have := hL.out; omega) (by decide) (fun q hq => by
          have hh := hmL.out
          have hh2 := hL.out
          have e : (fin1 (stepsUp ps k)).getD m default = lastS (fin1 (stepsUp ps k)) := by unfold lastS; rw [fin1_len, ← hh2, hh]; rfl
          show _ = if q = 2 then _ else TStep.cell ((fin1 (stepsUp ps k)).getD m default) q
          rw [e]
          match q, hq with
          | 0, _ => rfl
          | 1, _ => rfl
          | 2, _ => rfl)] at hs3
        have HP := Lib.hid (show pathSt ps k = (fin1 (stepsUp ps k)).set m ⟨(lastS (fin1 (stepsUp ps k))).nd, (lastS (fin1 (stepsUp ps k))).ing, 0⟩ by
          have hh := hmL.out
          have hh2 := hL.out
          unfold pathSt finS
          rw [if_neg (by omega)]
          unfold fin2
          rw [fin1_len, ← hh2, hh]
          rfl)
        have M1 := hM.appR hs2 (fun q hq => by cases hq; exact hg.1)
        have M2 := M1.appR hs4 (fun q hq => by cases hq; exact hg.1)
        go_wp2_with fail
        go_ret
        exact OutRows.of (by decide) (own_lowR (by rw [HP.out]; exact hs3) M0.size) (M0.trans M2)

theorem take_snoc {α : Type} [Inhabited α] (l : List α) {k : Nat} (h : k < l.length) : l.take (k + 1) = l.take k ++ [l.getD k default] := by
  rw [List.getD_eq_getElem?_getD, List.getElem?_eq_getElem h, List.take_add_one, List.getElem?_eq_getElem h]; rfl
end Go.Proofs.YthpejolljkbenaaDoor
