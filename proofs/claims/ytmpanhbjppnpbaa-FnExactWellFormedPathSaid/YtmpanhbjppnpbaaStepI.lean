
/- The steps of a path, by the program. -/
import Derived.Test.YtmpanhbjppnpbaaStepMath
import Derived.Test.YtmpanhbjppnpbaaCPath
import Derived.Test.YtmpanhbjppnpbaaRet
import Derived.Test.YtmpanhbjppnpbaaInfo
import Derived.Deep.RegionHeld3
import Derived.Laws.StructEq
import Derived.ChangeKeysEq
import Derived.StillTailTactics
namespace Go.Proofs.Ytmpanhbjppnpbaa
open Go.ChangeShapes Go.WideShapes Go.ChangeAt Go.RowKit
set_option linter.unusedVariables false
theorem infoRstp : (Try.prog.info? 167).map (fun i => (i.zero, i.size, i.bytes)) = some (some (.agg #[.int .i64 0, .int .i64 0, .int .i64 0]), 3, 24) := by kernel_rfl
theorem eqArr (x y : Int) (w : World) : (Op.equalIn 10000 167 (.agg #[.int .i64 x, .int .i64 0, .int .i64 0]) (.agg #[.int .i64 y, .int .i64 0, .int .i64 0])).run Try.prog w = .ok (x == y) w := by
  obtain ⟨i0, hi0, hz0, hz1, hz2⟩ := info_parts infoI64
  have hp : Try.prog.plainKey 3 = true := by kernel_rfl
  have hc : Try.prog.cellsOf 3 = 1 := by kernel_rfl
  rw [run_equalIn_array w 9999 _ _ Try.underlying167 hi0, show List.range 3 = [0, 1, 2] from rfl, hc]
  have P0 : ∀ z : Int, (part 3 #[Value.int .i64 z, .int .i64 0, .int .i64 0] 0).run Try.prog w = .ok (.int .i64 z) w := fun z => run_part_plain w hp rfl
  have P1 : ∀ z : Int, (part 3 #[Value.int .i64 z, .int .i64 0, .int .i64 0] 1).run Try.prog w = .ok (.int .i64 0) w := fun z => run_part_plain w hp rfl
  have P2 : ∀ z : Int, (part 3 #[Value.int .i64 z, .int .i64 0, .int .i64 0] 2).run Try.prog w = .ok (.int .i64 0) w := fun z => run_part_plain w hp rfl
  have Q : ∀ a b : Int, (Op.equalIn 9999 3 (.int .i64 a) (.int .i64 b)).run Try.prog w = .ok (a == b) w := fun a b => run_equalIn_int w 9998 3 .i64 .i64 a b Try.underlying3
  cases h : (x == y) <;> simp [Op.eqItems, P0, P1, P2, Q, h]
set_option maxRecDepth 100000 in
set_option maxHeartbeats 4000000 in
theorem implWoI (a b c : Int) (w : World) : Calls Try.prog 118 #[.agg #[.int .i64 a, .int .i64 b, .int .i64 c]] w fun e w' => e = .returned (.agg #[.int .i64 a, .int .i64 0, .int .i64 0]) ∧ Mk0 w w' := by
  go_enter Try.func118, Try.ntmps118
  go_wp2_with fail
  refine bodyPost_ret (v := .agg #[.int .i64 a, .int .i64 0, .int .i64 0]) (by simp [results, Try.results118, go_sem]) rfl ⟨rfl, Mk.of_below ?_⟩
  go_grown

set_option maxRecDepth 100000 in
set_option maxHeartbeats 4000000 in
theorem implSoP (x0 x1 x2 : Int) (a : Option Addr) (n c B : Nat) (zs : List THop) (w : World) (h : HasHop w B a n zs) (hB : B ≤ w.heap.size) (hn : n ≤ 1048576) :
    Calls Try.prog 106 #[.agg #[.int .i64 x0, .int .i64 x1, .int .i64 x2, .slice a n c]] w (OutRows 3 TStep.cell w (stL (⟨x0, x1, x2, zs⟩ : TPathPart) n)) := by
  obtain ⟨i0, hi0, hz0, hz1, hz2⟩ := info_parts infoRstp
  have M0 := Mk.alloc w (Obj.cells #[Value.int .i64 x0, Value.int .i64 x1, Value.int .i64 x2, Value.slice a n c] 108)
  have HL := Lib.hid h.1
  go_enter Try.func106, Try.ntmps106
  go_wp2_with fail
  have hl0 := own_emptyR (w.alloc (Obj.cells #[Value.int .i64 x0, Value.int .i64 x1, Value.int .i64 x2, Value.slice a n c] 108)) 167 3
  have ML := Mk.alloc (w.alloc (Obj.cells #[Value.int .i64 x0, Value.int .i64 x1, Value.int .i64 x2, Value.slice a n c] 108)) (.cells #[] 167)
  go_loopw [3, 12] (fun v i wr => ∃ k : Nat, k ≤ n ∧ i = .int .i64 k ∧ wr.ownsRow (w.alloc (Obj.cells #[Value.int .i64 x0, Value.int .i64 x1, Value.int .i64 x2, Value.slice a n c] 108)).heap.size 167 3 v k (rowC 3 TStep.cell (stL (⟨x0, x1, x2, zs⟩ : TPathPart) k)) ∧ Mk0 (w.alloc (Obj.cells #[Value.int .i64 x0, Value.int .i64 x1, Value.int .i64 x2, Value.slice a n c] 108)) wr) (fun _ i _ => n - (intOf i).toNat)
  case atStart => exact ⟨0, Nat.zero_le _, rfl, by simpa [stL, rowC] using hl0, ML⟩
  case round =>
    clear hl0 ML
    obtain ⟨k, hk, rfl, hown, hP⟩ := hrel
    have hM := M0.trans hP
    have k0 := hP.cellAt (b := w.heap.size) (o := 0) (v := .int .i64 x0) (by simp [go_sem])
    have k1 := hP.cellAt (b := w.heap.size) (o := 1) (v := .int .i64 x1) (by simp [go_sem])
    have k2 := hP.cellAt (b := w.heap.size) (o := 2) (v := .int .i64 x2) (by simp [go_sem])
    have k3 := hP.cellAt (b := w.heap.size) (o := 3) (v := .slice a n c) (by simp [go_sem])
    have hbp := World.block_lt_of_cell? _ _ k0
    simp only at hbp
    by_cases hlt : k < n
    · obtain ⟨b, off, y, rfl, hb, hx, c0, c1, c2, c3, c4⟩ := HasHop.at _ _ _ _ _ _ (h.mk hM hB (.inr (Nat.le_refl _))) hlt
      have hbr := World.block_lt_of_cell? _ _ c0
      simp only at hbr
      have MH := Mk.alloc wr (Obj.cells #[Value.int .i64 y.nd, Value.int .i64 y.ing, Value.int .i64 y.eg, Value.int .i64 y.exp, Value.int .i64 y.mac] 85)
      have HE := Lib.hid (show stL (⟨x0, x1, x2, zs⟩ : TPathPart) (k + 1) = stL (⟨x0, x1, x2, zs⟩ : TPathPart) k ++ [⟨y.nd, pInV x0 zs n k, pOutV x0 zs n k⟩] by rw [stL, stOf]; simp only; rw [← hx.out, HL.out])
      have d0 : (wr.alloc (Obj.cells #[Value.int .i64 y.nd, Value.int .i64 y.ing, Value.int .i64 y.eg, Value.int .i64 y.exp, Value.int .i64 y.mac] 85)).cell? ⟨wr.heap.size, 0, none⟩ = some (.int .i64 y.nd) := by simp [go_sem]
      replace k0 := MH.cellAt k0
      replace k1 := MH.cellAt k1
      replace k2 := MH.cellAt k2
      replace k3 := MH.cellAt k3
      have M1 := hM.trans MH
      have P1 := hP.trans MH
      go_wp2_with fail
      refine (implDoors x0 x1 x2 (some ⟨b, off, none⟩) n c B zs k _ (h.mk M1 hB (.inr (Nat.le_refl _))) (Nat.le_trans hB M1.size) hn).mono ?_
      rintro e w2 ⟨rfl, m2⟩
      have M2 := M1.trans m2
      replace d0 := m2.cellAt d0
      replace k0 := m2.cellAt k0
      replace k1 := m2.cellAt k1
      replace k2 := m2.cellAt k2
      replace k3 := m2.cellAt k3
      have ho2 := own_keptR (own_keptR hown MH) m2
      have MX := Mk.alloc w2 (Obj.cells #[Value.int .i64 y.nd, Value.int .i64 (pInV x0 zs n k), Value.int .i64 (pOutV x0 zs n k)] 167)
      have ho3 := own_keptR ho2 MX
      have hh3 := hasR_new (cell := TStep.cell) (nc := 3) (by decide) w2 167 ⟨y.nd, pInV x0 zs n k, pOutV x0 zs n k⟩ #[Value.int .i64 y.nd, Value.int .i64 (pInV x0 zs n k), Value.int .i64 (pOutV x0 zs n k)] (fun j hj => by match j, hj with | 0, _ => rfl | 1, _ => rfl | 2, _ => rfl)
      have P2 := (P1.trans m2).trans MX
      have hlo := P2.size
      have hbp2 := World.block_lt_of_cell? _ _ k0
      simp only at hbp2
      go_wp2_with (at_builtin; refine wpList_appR (by decide) oneStep rfl (.tmp 23) (.tmp 29) 146 rfl _ 167 i0 _ Try.underlying146 hi0 hz0 rfl hz1 (by rw [hz2]; decide) _ (stL (⟨x0, x1, x2, zs⟩ : TPathPart) k) k rfl ho3 _ 1 1 [⟨y.nd, pInV x0 zs n k, pOutV x0 zs n k⟩] rfl (fun h => by cases h) hh3 (by omega) hlo ?_; intro v2 w3 hown2 hgr2)
      have M3 := P2.appR hgr2 (fun g hg => (ho3.lt g hg).1)
      go_wp2_with fail
      go_roundw
      case rel => exact ⟨k + 1, by omega, by go_num, by rw [HE.out]; exact hown2, M3⟩
      case measure => simp [intOf]; omega
    · obtain rfl : k = n := by omega
      go_wp2_with fail
      go_ret
      exact OutRows.of (by decide) (own_lowR hown M0.size) hM

set_option maxRecDepth 100000 in
set_option maxHeartbeats 4000000 in
theorem implMeet (a a' : Option Addr) (n n' c c' B B' : Nat) (zs zs' : List TStep) (w : World) (h : HasStep w B a n zs) (h' : HasStep w B' a' n' zs') (hB : B ≤ w.heap.size) (hB' : B' ≤ w.heap.size) (hn : n ≤ 2097152) (hn' : n' ≤ 2097152) :
    Calls Try.prog 105 #[.slice a n c, .slice a' n' c'] w fun e w' => e = .returned (.bool (meetB zs zs')) ∧ Mk0 w w' := by
  have hl := h.1
  have hl' := h'.1
  by_cases g1 : n = 0
  · subst g1
    have HR := Lib.hid (show meetB zs zs' = false by unfold meetB; rw [hl]; simp)
    go_enter Try.func105, Try.ntmps105
    go_wp2_with fail
    go_quiet (fail)
    go_wp2_with fail
    go_ret
    exact ⟨retB HR.out.symm, Mk.drewN _ _⟩
  · have q1 : (0 : Int) < (n : Int) := by omega
    have d1 : decide (0 < n) = true := by simp; omega
    have e1 : 0 < n := by omega
    by_cases g2 : n' = 0
    · subst g2
      have HR := Lib.hid (show meetB zs zs' = false by unfold meetB; rw [hl']; simp)
      go_enter Try.func105, Try.ntmps105
      go_wp2_with fail
      go_quiet (fail)
      go_wp2_with fail
      go_ret
      exact ⟨retB HR.out.symm, Mk.drewN _ _⟩
    · have q2 : (0 : Int) < (n' : Int) := by omega
      have d2 : decide (0 < n') = true := by simp; omega
      have e2 : 0 < n' := by omega
      obtain ⟨m, hm⟩ : ∃ m, Hid (n = m + 1) := ⟨n - 1, by show n = n - 1 + 1; omega⟩
      obtain ⟨b, off, x, rfl, hb, hx, c0, c1, c2⟩ := HasStep.at _ _ _ _ _ _ h (show m < n by have := hm.out; omega)
      have hw : IntKind.i64.wrap ((n : Int) - 1) = (m : Int) := by have := hm.out; rw [show (n : Int) - 1 = (m : Int) by omega]; rw [IntKind.wrap_i64]; omega
      obtain ⟨b', off', y, rfl, hb', hy, d0, d1', d2'⟩ := HasStep.at _ _ _ _ _ _ h' (show 0 < n' by omega)
      simp only [Nat.zero_mul, Nat.add_zero] at d0 d1' d2'
      have hlx : lastS zs = x := by unfold lastS; rw [hl, hm.out, Nat.add_sub_cancel, hx.out]
      cases e0 : (x.nd == y.nd)
      · have HR := Lib.hid (show meetB zs zs' = false by unfold meetB; rw [hl, hl', hlx, ← hy.out, e0]; simp; try omega)
        have i0 : (0 : Int) ≤ (m : Int) := by omega
        have i1 : (m : Int) < (n : Int) := by have := hm.out; omega
        have heq : ∀ w', (Op.equalIn 10000 167 (.agg #[.int .i64 x.nd, .int .i64 0, .int .i64 0]) (.agg #[.int .i64 y.nd, .int .i64 0, .int .i64 0])).run Try.prog w' = .ok false w' := fun w' => by rw [eqArr, e0]
        go_enter Try.func105, Try.ntmps105
        go_wp2_with fail
        go_region_held3 (fun w' => Mk0 w w' ∧ w'.cell? ⟨b, off + m * 3, none⟩ = some (.int .i64 x.nd) ∧ w'.cell? ⟨b, off + m * 3 + 1, none⟩ = some (.int .i64 x.ing) ∧ w'.cell? ⟨b, off + m * 3 + 2, none⟩ = some (.int .i64 x.eg) ∧ w'.cell? ⟨b', off', none⟩ = some (.int .i64 y.nd) ∧ w'.cell? ⟨b', off' + 1, none⟩ = some (.int .i64 y.ing) ∧ w'.cell? ⟨b', off' + 2, none⟩ = some (.int .i64 y.eg)) (first | exact ⟨Mk.drew1 _, c0, c1, c2, d0, d1', d2'⟩ | (obtain ⟨s0, s1, s2, s3, s4, s5, s6⟩ := ‹Mk0 w _ ∧ _›; exact ⟨s0.trans mm, mm.cellAt s1, mm.cellAt s2, mm.cellAt s3, mm.cellAt s4, mm.cellAt s5, mm.cellAt s6⟩)) (first | (go_at_call 118; with_reducible refine (implWoI x.nd x.ing x.eg _).mono ?_; rintro e wx ⟨rfl, mx⟩; have mm := mx) | (go_at_call 118; with_reducible refine (implWoI y.nd y.ing y.eg _).mono ?_; rintro e wy ⟨rfl, my⟩; have mm := my))
        go_wp2_with fail
        go_ret
        exact ⟨retB HR.out.symm, ‹Mk0 w _ ∧ _›.1⟩
      · have HR := Lib.hid (show meetB zs zs' = true by unfold meetB; rw [hl, hl', hlx, ← hy.out, e0]; simp; try omega)
        have i0 : (0 : Int) ≤ (m : Int) := by omega
        have i1 : (m : Int) < (n : Int) := by have := hm.out; omega
        have heq : ∀ w', (Op.equalIn 10000 167 (.agg #[.int .i64 x.nd, .int .i64 0, .int .i64 0]) (.agg #[.int .i64 y.nd, .int .i64 0, .int .i64 0])).run Try.prog w' = .ok true w' := fun w' => by rw [eqArr, e0]
        go_enter Try.func105, Try.ntmps105
        go_wp2_with fail
        go_region_held3 (fun w' => Mk0 w w' ∧ w'.cell? ⟨b, off + m * 3, none⟩ = some (.int .i64 x.nd) ∧ w'.cell? ⟨b, off + m * 3 + 1, none⟩ = some (.int .i64 x.ing) ∧ w'.cell? ⟨b, off + m * 3 + 2, none⟩ = some (.int .i64 x.eg) ∧ w'.cell? ⟨b', off', none⟩ = some (.int .i64 y.nd) ∧ w'.cell? ⟨b', off' + 1, none⟩ = some (.int .i64 y.ing) ∧ w'.cell? ⟨b', off' + 2, none⟩ = some (.int .i64 y.eg)) (first | exact ⟨Mk.drew1 _, c0, c1, c2, d0, d1', d2'⟩ | (obtain ⟨s0, s1, s2, s3, s4, s5, s6⟩ := ‹Mk0 w _ ∧ _›; exact ⟨s0.trans mm, mm.cellAt s1, mm.cellAt s2, mm.cellAt s3, mm.cellAt s4, mm.cellAt s5, mm.cellAt s6⟩)) (first | (go_at_call 118; with_reducible refine (implWoI x.nd x.ing x.eg _).mono ?_; rintro e wx ⟨rfl, mx⟩; have mm := mx) | (go_at_call 118; with_reducible refine (implWoI y.nd y.ing y.eg _).mono ?_; rintro e wy ⟨rfl, my⟩; have mm := my))
        go_wp2_with fail
        go_ret
        exact ⟨retB HR.out.symm, ‹Mk0 w _ ∧ _›.1⟩

theorem take_snoc {α : Type} [Inhabited α] (l : List α) {k : Nat} (h : k < l.length) : l.take (k + 1) = l.take k ++ [l.getD k default] := by
  rw [List.getD_eq_getElem?_getD, List.getElem?_eq_getElem h, List.take_add_one, List.getElem?_eq_getElem h]; rfl
end Go.Proofs.Ytmpanhbjppnpbaa
