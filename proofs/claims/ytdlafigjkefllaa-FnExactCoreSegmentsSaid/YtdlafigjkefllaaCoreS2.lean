
/- CoreSegments of the model. -/
import Derived.Test.YtdlafigjkefllaaCoreI
namespace Go.Proofs.Ytdlafigjkefllaa
open Go.ChangeShapes Go.WideShapes Go.ChangeAt Go.RowKit
set_option linter.unusedVariables false
def OutG (R : List TSegment) (w : World) (e : Ending) (w' : World) : Prop :=
  ∃ A N C gs, e = .returned (.slice A N C) ∧ w'.ownsRow w.heap.size 82 3 (.slice A N C) N (rowC 3 HSegment.cell gs) ∧ gs.length = N ∧ R.length = N ∧ Kids WSegment w' w.heap.size w'.heap.size (fun g => (Value.slice A N C).ownBlock = some g) N gs R ∧ Mk0 w w'
set_option maxRecDepth 100000 in
set_option maxHeartbeats 8000000 in
theorem specBetw (a0 a1 : Option Addr) (n0 c0 n1 c1 B : Nat) (z1 : List TSegment) (pf pt : Int) (w : World) (h1 : HasSegment w B a1 n1 z1) (hB : B ≤ w.heap.size) (hs : szSegment z1 n1 ≤ 1048576) :
    Calls Try.prog 52 #[.agg #[.slice a0 n0 c0, .slice a1 n1 c1], .int .i64 pf, .int .i64 pt] w (OutG (filtUp (between pf pt) z1 n1) w) := by
  have M0 : Mk0 w (w.alloc (Obj.cells #[Value.slice a0 n0 c0, Value.slice a1 n1 c1] 37)) := (Mk.alloc w (Obj.cells #[Value.slice a0 n0 c0, Value.slice a1 n1 c1] 37))
  have k0 : (w.alloc (Obj.cells #[Value.slice a0 n0 c0, Value.slice a1 n1 c1] 37)).cell? ⟨w.heap.size, 0, none⟩ = some (.slice a0 n0 c0) := by simp [go_sem]
  have k1 : (w.alloc (Obj.cells #[Value.slice a0 n0 c0, Value.slice a1 n1 c1] 37)).cell? ⟨w.heap.size, 1, none⟩ = some (.slice a1 n1 c1) := by simp [go_sem]
  have hs0 : (w.alloc (Obj.cells #[Value.slice a0 n0 c0, Value.slice a1 n1 c1] 37)).heap.size = w.heap.size + 1 := by simp only [World.size_alloc]
  have hn : n1 ≤ 1048576 := Nat.le_trans (szSegment_n z1 n1) hs
  obtain ⟨i0, hi0, hz0, hz1, hz2⟩ := info_parts infoRSegment
  have K1 := Lib.hid k1
  clear k0 k1
  go_enter Try.func52, Try.ntmps52
  go_wp2_with fail
  generalize (w.alloc (Obj.cells #[Value.slice a0 n0 c0, Value.slice a1 n1 c1] 37)) = wb at *
  have hA := own_emptyR wb 82 3
  have MA := Mk.alloc wb (.cells #[] 82)
  rw [hs0] at hA
  go_loopw [7, 8] (fun v i wr => ∃ (k : Nat) (gs : List HSegment), k ≤ n1 ∧ i = .int .i64 (k : Int) ∧ gs.length = (filtUp (between pf pt) z1 k).length ∧ wr.ownsRow (w.heap.size + 1) 82 3 v gs.length (rowC 3 HSegment.cell gs) ∧ Hid (Kids WSegment wr (w.heap.size + 1) wr.heap.size (fun g => v.ownBlock = some g) gs.length gs (filtUp (between pf pt) z1 k)) ∧ Mk0 wb wr) (fun _ i _ => n1 - (intOf i).toNat)
  case atStart => exact ⟨0, [], Nat.zero_le _, rfl, rfl, hA, Lib.hid (Kids.none_ _ _ _ _ _ _ _), MA⟩
  case round =>
    clear hA MA
    obtain ⟨k, gs, hk, rfl, hgl, hown, hK, hM⟩ := hrel
    have k1 := hM.cellAt K1.out
    have hMW := M0.trans hM
    have hul := filtUp_le (between pf pt) z1 k
    have hlow := hM.size
    rw [hs0] at hlow
    obtain ⟨L, hL⟩ : ∃ L, Hid (L = gs.length) := ⟨_, Lib.hid rfl⟩
    by_cases hlt : k < n1
    · obtain ⟨b, off, x, rfl, hb, hx, a3, n3, c3, d0, d1, d2, hr, p1, p2, p3⟩ := HasSegment.at _ _ _ _ _ _ (h1.mk hMW hB (.inr (Nat.le_refl _))) hlt
      have hbd : n3 ≤ 1048576 := by have h1 := szSegment_at z1 hlt; rw [← hx.out] at h1; unfold seSegment at h1; have h2 : x.hops.length = n3 := hr.1; omega
      have hn3 := hr.1
      have hbr := World.block_lt_of_cell? _ _ d0
      simp only at hbr
      have i1 : (0 : Int) ≤ (k : Int) := by omega
      have i2 : (k : Int) < (n1 : Int) := by omega
      have hBr := Nat.le_trans hB hMW.size
      have KP := specFirst x.ts x.beta a3 n3 c3 B x.hops wr hr hBr hbd
      cases c1 : (segFirst x.hops n3 == pf)
      · have HE := Lib.hid (show filtUp (between pf pt) z1 (k + 1) = filtUp (between pf pt) z1 k by rw [filtUp, ← hx.out]; unfold between; rw [hn3, c1]; rfl)
        go_wp2_with fail
        refine KP.mono ?_
        rintro e w2 ⟨rfl, m2⟩
        clear KP
        replace k1 := m2.cellAt k1
        replace d0 := m2.cellAt d0
        replace d1 := m2.cellAt d1
        replace d2 := m2.cellAt d2
        have hb2 := World.block_lt_of_cell? _ _ d0
        simp only at hb2
        have hrr := hr.mk m2 hBr (.inr (Nat.le_refl _))
        have hB2 := Nat.le_trans hBr m2.size
        go_wp2_with fail
        go_roundw
        case rel => exact ⟨k + 1, gs, by omega, by go_num, by rw [HE.out]; exact hgl, own_keptR hown m2, by rw [HE.out]; exact Lib.hid ((hK.out.mk m2 (Nat.le_refl _) (.inr (.inr (Nat.le_refl _)))).wide (Nat.le_refl _) m2.size), hM.trans m2⟩
        case measure => simp [intOf]; omega
      · cases c2 : (segLast x.hops n3 == pt)
        · have HE := Lib.hid (show filtUp (between pf pt) z1 (k + 1) = filtUp (between pf pt) z1 k by rw [filtUp, ← hx.out]; unfold between; rw [hn3, c1, c2]; rfl)
          go_wp2_with fail
          refine KP.mono ?_
          rintro e w2 ⟨rfl, m2⟩
          clear KP
          replace k1 := m2.cellAt k1
          replace d0 := m2.cellAt d0
          replace d1 := m2.cellAt d1
          replace d2 := m2.cellAt d2
          have hb2 := World.block_lt_of_cell? _ _ d0
          simp only at hb2
          have hrr := hr.mk m2 hBr (.inr (Nat.le_refl _))
          have hB2 := Nat.le_trans hBr m2.size
          have KQ := specLast x.ts x.beta a3 n3 c3 B x.hops w2 hrr hB2 hbd
          go_wp2_with fail
          refine KQ.mono ?_
          rintro e w3 ⟨rfl, m3⟩
          clear KQ
          replace k1 := m3.cellAt k1
          replace d0 := m3.cellAt d0
          replace d1 := m3.cellAt d1
          replace d2 := m3.cellAt d2
          have hb3 := World.block_lt_of_cell? _ _ d0
          simp only at hb3
          have hmy := m2.trans m3
          go_wp2_with fail
          go_roundw
          case rel => exact ⟨k + 1, gs, by omega, by go_num, by rw [HE.out]; exact hgl, own_keptR hown hmy, by rw [HE.out]; exact Lib.hid ((hK.out.mk hmy (Nat.le_refl _) (.inr (.inr (Nat.le_refl _)))).wide (Nat.le_refl _) hmy.size), hM.trans hmy⟩
          case measure => simp [intOf]; omega
        · have HE := Lib.hid (show filtUp (between pf pt) z1 (k + 1) = filtUp (between pf pt) z1 k ++ [x] by rw [filtUp, ← hx.out]; unfold between; rw [hn3, c1, c2]; rfl)
          go_wp2_with fail
          refine KP.mono ?_
          rintro e w2 ⟨rfl, m2⟩
          clear KP
          replace k1 := m2.cellAt k1
          replace d0 := m2.cellAt d0
          replace d1 := m2.cellAt d1
          replace d2 := m2.cellAt d2
          have hb2 := World.block_lt_of_cell? _ _ d0
          simp only at hb2
          have hrr := hr.mk m2 hBr (.inr (Nat.le_refl _))
          have hB2 := Nat.le_trans hBr m2.size
          have KQ := specLast x.ts x.beta a3 n3 c3 B x.hops w2 hrr hB2 hbd
          go_wp2_with fail
          refine KQ.mono ?_
          rintro e w3 ⟨rfl, m3⟩
          clear KQ
          replace k1 := m3.cellAt k1
          replace d0 := m3.cellAt d0
          replace d1 := m3.cellAt d1
          replace d2 := m3.cellAt d2
          have hb3 := World.block_lt_of_cell? _ _ d0
          simp only at hb3
          have hmy := m2.trans m3
          have KC := specL9Copy x.ts x.beta a3 n3 c3 B x.hops w3 (hrr.mk m3 hB2 (.inr (Nat.le_refl _))) (Nat.le_trans hB2 m3.size) hbd p3 p1
          have hszm := hmy.size
          go_wp2_with fail
          refine KC.mono ?_
          intro e w4 ho
          clear KC
          obtain ⟨A3, N3, C3, rfl, hcc, hO3, m4⟩ := ho.c
          clear ho
          replace k1 := m4.cellAt k1
          have mB := Mk.alloc w4 (Obj.cells #[.int .i64 x.ts, .int .i64 x.beta, .slice A3 N3 C3] 82)
          have mY := (hmy.trans m4).trans mB
          have hown2 := own_keptR hown mY
          rw [← hL.out] at hown2
          have hsz4 := m4.size
          have hh := hasR_new (cell := HSegment.cell) (nc := 3) (by decide) w4 82 (⟨x.ts, x.beta, A3, N3, C3⟩ : HSegment) #[.int .i64 x.ts, .int .i64 x.beta, .slice A3 N3 C3] (fun j hj => by match j, hj with | 0, _ => rfl | 1, _ => rfl | 2, _ => rfl)
          have hlo : w.heap.size + 1 ≤ (w4.alloc (Obj.cells #[.int .i64 x.ts, .int .i64 x.beta, .slice A3 N3 C3] 82)).heap.size := Nat.le_trans hlow mY.size
          have hLb : L ≤ k := by rw [hL.out]; omega
          have hK2 := Lib.hid ((((hK.out.mk hmy (Nat.le_refl _) (.inr (.inr (Nat.le_refl _)))).mk m4 hmy.size (.inr (.inr (Nat.le_refl _)))).snoc (g := (⟨x.ts, x.beta, A3, N3, C3⟩ : HSegment)) (x := x) rfl hgl.symm (show w.heap.size + 1 ≤ w3.heap.size by omega) m4.size ⟨rfl, rfl, hO3, hcc.2.1, hcc.2.2, hcc.1⟩ hmy.size (fun q hq => .inl (Nat.lt_of_lt_of_le (hown.lt q hq).2 hmy.size))).mk mB (Nat.le_refl _) (.inr (.inr (Nat.le_refl _))))
          clear hO3 hK
          go_wp2_with (at_builtin; refine wpList_appR4 (by decide) oneSegment rfl (.tmp 35) (.tmp 42) 34 rfl (w.heap.size + 1) 82 i0 _ Try.underlying34 hi0 hz0 rfl hz1 (by rw [hz2]; decide) _ gs L rfl hown2 _ 1 1 [(⟨x.ts, x.beta, A3, N3, C3⟩ : HSegment)] rfl (fun h => by cases h) hh (by omega) hlo ?_; intro v2 w5 hown4 hgr hat)
          have M4 := (hM.trans mY).appR hgr (fun g hg => by rw [hs0]; exact (hown2.lt g hg).1)
          have z4 := hgr.size
          have zB := mB.size
          have hK4 := hK2.out.grow hgr mB.size hat
          clear hK2 hat
          have hGL : (gs ++ [(⟨x.ts, x.beta, A3, N3, C3⟩ : HSegment)]).length = L + 1 := by rw [List.length_append, hL.out]; rfl
          rw [← hGL] at hown4
          go_wp2_with fail
          go_roundw
          case rel => exact ⟨k + 1, gs ++ [(⟨x.ts, x.beta, A3, N3, C3⟩ : HSegment)], by omega, by go_num, by rw [HE.out, List.length_append, List.length_append, hgl]; rfl, hown4, by rw [HE.out, List.length_append]; exact Lib.hid (hK4.wide (Nat.le_refl _) (by omega)), M4⟩
          case measure => simp [intOf]; omega
    · obtain rfl : k = n1 := by omega
      go_wp2_with fail
      go_ret
      obtain ⟨A, C, rfl, hca, hcb⟩ := ownsRow_sliceR2 hown
      exact ⟨A, gs.length, C, gs, rfl, own_lowR hown (by omega), rfl, hgl.symm, hK.out.wide (by omega) (Nat.le_refl _), hMW⟩

set_option maxRecDepth 100000 in
set_option maxHeartbeats 16000000 in
theorem specCore (a0 a1 : Option Addr) (n0 c0 n1 c1 B : Nat) (z1 : List TSegment) (pf pt : Int) (w : World) (h1 : HasSegment w B a1 n1 z1) (hB : B ≤ w.heap.size) (hs : szSegment z1 n1 ≤ 1048576) :
    Calls Try.prog 23 #[.agg #[.slice a0 n0 c0, .slice a1 n1 c1], .int .i64 pf, .int .i64 pt] w (OutLSegment ((filtUp (between pf pt) z1 n1) ++ (filtUp (between pt pf) z1 n1)) w) := by
  have M0 : Mk0 w (w.alloc (Obj.cells #[Value.slice a0 n0 c0, Value.slice a1 n1 c1] 37)) := (Mk.alloc w (Obj.cells #[Value.slice a0 n0 c0, Value.slice a1 n1 c1] 37))
  have k0 : (w.alloc (Obj.cells #[Value.slice a0 n0 c0, Value.slice a1 n1 c1] 37)).cell? ⟨w.heap.size, 0, none⟩ = some (.slice a0 n0 c0) := by simp [go_sem]
  have k1 : (w.alloc (Obj.cells #[Value.slice a0 n0 c0, Value.slice a1 n1 c1] 37)).cell? ⟨w.heap.size, 1, none⟩ = some (.slice a1 n1 c1) := by simp [go_sem]
  have hs0 : (w.alloc (Obj.cells #[Value.slice a0 n0 c0, Value.slice a1 n1 c1] 37)).heap.size = w.heap.size + 1 := by simp only [World.size_alloc]
  obtain ⟨i0, hi0, hz0, hz1, hz2⟩ := info_parts infoRSegment
  have hb1 : (filtUp (between pf pt) z1 n1).length ≤ 1048576 := Nat.le_trans (filtUp_le _ _ _) (Nat.le_trans (szSegment_n z1 n1) hs)
  have hb2 : (filtUp (between pt pf) z1 n1).length ≤ 1048576 := Nat.le_trans (filtUp_le _ _ _) (Nat.le_trans (szSegment_n z1 n1) hs)
  obtain ⟨R1, hR1⟩ : ∃ R, Hid (R = (filtUp (between pf pt) z1 n1)) := ⟨_, Lib.hid rfl⟩
  obtain ⟨R2, hR2⟩ : ∃ R, Hid (R = (filtUp (between pt pf) z1 n1)) := ⟨_, Lib.hid rfl⟩
  rw [← hR1.out] at hb1 ⊢
  rw [← hR2.out] at hb2 ⊢
  go_enter Try.func23, Try.ntmps23
  go_wp2_with fail
  generalize (w.alloc (Obj.cells #[Value.slice a0 n0 c0, Value.slice a1 n1 c1] 37)) = wb at *
  refine wp_region_fh (fun (g : Bxs) w' => (Mk0 wb w' ∧ w'.cell? ⟨w.heap.size, 0, none⟩ = some (.slice a0 n0 c0) ∧ w'.cell? ⟨w.heap.size, 1, none⟩ = some (.slice a1 n1 c1)) ∧ BxS wb.heap.size g w') (fhF [fun g x wv => (x 0) = .agg #[.slice a0 n0 c0, .slice a1 n1 c1], fun g x wv => (x 1) = .int .i64 pf, fun g x wv => (x 2) = .int .i64 pt, fun g x wv => ∃ (A : Option Addr) (N C : Nat) (gs : List HSegment) (lo hi : Nat), (x 3) = .slice A N C ∧ wv.ownsRow lo 82 3 (.slice A N C) N (rowC 3 HSegment.cell gs) ∧ gs.length = N ∧ R1.length = N ∧ Kids WSegment wv lo hi (fun g => (Value.slice A N C).ownBlock = some g) N gs R1 ∧ (∀ g, (Value.slice A N C).ownBlock = some g → g < hi) ∧ wb.heap.size ≤ lo ∧ lo ≤ hi ∧ hi ≤ wv.heap.size, fun g x wv => (x 4) = .agg #[.slice a0 n0 c0, .slice a1 n1 c1], fun g x wv => (x 5) = .int .i64 pt, fun g x wv => (x 6) = .int .i64 pf, fun g x wv => ∃ (A : Option Addr) (N C : Nat) (gs : List HSegment) (lo hi : Nat) (A2 : Option Addr) (N2 C2 : Nat) (gs2 : List HSegment) (lo2 hi2 : Nat), (x 3) = .slice A N C ∧ wv.ownsRow lo 82 3 (.slice A N C) N (rowC 3 HSegment.cell gs) ∧ gs.length = N ∧ R1.length = N ∧ Kids WSegment wv lo hi (fun g => (Value.slice A N C).ownBlock = some g) N gs R1 ∧ (∀ g, (Value.slice A N C).ownBlock = some g → g < hi) ∧ wb.heap.size ≤ lo ∧ lo ≤ hi ∧ (x 7) = .slice A2 N2 C2 ∧ OwnR 3 HSegment.cell wv lo2 hi2 A2 N2 gs2 ∧ (A2 = none → C2 = 0) ∧ R2.length = N2 ∧ Kids WSegment wv lo2 hi2 (fun _ => False) N2 gs2 R2 ∧ hi ≤ lo2 ∧ lo2 ≤ hi2 ∧ hi2 ≤ wv.heap.size]) BxX (fun _ _ => False) (spL [[0], [1], [2], [3], [4], [5], [6], [3, 7]]) 10 8 (by kernel_rfl) (by kernel_rfl) (by kernel_rfl) (by decide) (by decide) (by kernel_rfl) (fun h => absurd h (by decide)) (fhM_mono ⟨fun g g' v w w' h x => h, fun g g' v w w' h x => h, fun g g' v w w' h x => h, fun g g' v w w' h x => (by obtain ⟨A, N, C, gs, lo, hi, e, ow, l1, l2, kk, lt, d1, d2, d3⟩ := h; exact ⟨A, N, C, gs, lo, hi, e, own_keptR ow x.far, l1, l2, kk.mk x.far d3 (.inr (.inr (Nat.le_refl _))), lt, d1, d2, Nat.le_trans d3 x.far.size⟩), fun g g' v w w' h x => h, fun g g' v w w' h x => h, fun g g' v w w' h x => h, fun g g' v w w' h x => (by obtain ⟨A, N, C, gs, lo, hi, A2, N2, C2, gs2, lo2, hi2, e, ow, l1, l2, kk, lt, d1, d2, e2, o2, c2, t2, k2, d3, d4, d5⟩ := h; exact ⟨A, N, C, gs, lo, hi, A2, N2, C2, gs2, lo2, hi2, e, own_keptR ow x.far, l1, l2, kk.mk x.far (by omega) (.inr (.inr (Nat.le_refl _))), lt, d1, d2, e2, o2.mk x.far d5 (.inr (.inr (Nat.le_refl _))), c2, t2, k2.mk x.far d5 (.inr (.inr (Nat.le_refl _))), d3, d4, Nat.le_trans d5 x.far.size⟩), trivial⟩) ⟨⟨Mk.drew1 _, k0, k1⟩, BxS.none_ _ _⟩ ?_
  change WkH _ _ _ _ _ _ _ 10 8 8 0 _
  refine WkH.value (m := 7) (k := 0) (by decide) rfl rfl (of_decide_eq_true (by rfl)) rfl (fun g wv hS hF => ?_) (fun v0 => ?_)
  · obtain ⟨⟨s0, s1, s2⟩, hB2⟩ := hS
    exact ⟨.agg #[.slice a0 n0 c0, .slice a1 n1 c1], wv, g, (by go_simp; try with_reducible rfl), ⟨⟨s0, s1, s2⟩, hB2⟩, BxX.same (Mk.refl _ _ _), rfl⟩
  try simp only [Act.put, List.getElem_toArray, List.getElem_cons_zero, List.setIfInBounds_toArray, List.set_cons_zero, List.set_cons_succ]
  refine WkH.value (m := 6) (k := 1) (by decide) rfl rfl (of_decide_eq_true (by rfl)) rfl (fun g wv hS hF => ?_) (fun v1 => ?_)
  · obtain ⟨⟨s0, s1, s2⟩, hB2⟩ := hS
    exact ⟨.int .i64 pf, wv, g, (by go_simp; try with_reducible rfl), ⟨⟨s0, s1, s2⟩, hB2⟩, BxX.same (Mk.refl _ _ _), rfl⟩
  try simp only [Act.put, List.getElem_toArray, List.getElem_cons_succ, List.getElem_cons_zero, List.setIfInBounds_toArray, List.set_cons_zero, List.set_cons_succ]
  refine WkH.value (m := 5) (k := 2) (by decide) rfl rfl (of_decide_eq_true (by rfl)) rfl (fun g wv hS hF => ?_) (fun v2 => ?_)
  · obtain ⟨⟨s0, s1, s2⟩, hB2⟩ := hS
    exact ⟨.int .i64 pt, wv, g, (by go_simp; try with_reducible rfl), ⟨⟨s0, s1, s2⟩, hB2⟩, BxX.same (Mk.refl _ _ _), rfl⟩
  try simp only [Act.put, List.getElem_toArray, List.getElem_cons_succ, List.getElem_cons_zero, List.setIfInBounds_toArray, List.set_cons_zero, List.set_cons_succ]
  refine WkH.call (m := 4) (k := 3) (by decide) rfl rfl (of_decide_eq_true (by rfl)) rfl (fun g wv hS hF => ?_) (fun v3 => ?_)
  · obtain ⟨⟨s0, s1, s2⟩, hB2⟩ := hS
    have f0 : v0 = .agg #[.slice a0 n0 c0, .slice a1 n1 c1] := hF 0 (by rfl)
    obtain rfl := f0
    have f1 : v1 = .int .i64 pf := hF 1 (by rfl)
    obtain rfl := f1
    have f2 : v2 = .int .i64 pt := hF 2 (by rfl)
    obtain rfl := f2
    refine ⟨_, _, (by go_simp; first | done | exact ⟨rfl, rfl⟩ | with_reducible rfl), ?_⟩
    refine ((specBetw a0 a1 n0 c0 n1 c1 B z1 pf pt wv (h1.mk (M0.trans s0) hB (.inr (Nat.le_refl _))) (Nat.le_trans hB (M0.trans s0).size) hs)).mono ?_
    rintro e w' ⟨A, N, C, gs, rfl, ow, l1, l2, kk, mm⟩
    exact ⟨_, g, rfl, ⟨⟨s0.trans mm, mm.cellAt s1, mm.cellAt s2⟩, hB2.mk0 mm⟩, BxX.same mm, ⟨A, N, C, gs, wv.heap.size, w'.heap.size, rfl, ow, l1, hR1.out ▸ l2, hR1.out ▸ kk, fun g hg => (ow.lt g hg).2, s0.size, mm.size, Nat.le_refl _⟩⟩
  try simp only [Act.put, List.getElem_toArray, List.getElem_cons_succ, List.getElem_cons_zero, List.setIfInBounds_toArray, List.set_cons_zero, List.set_cons_succ]
  refine WkH.value (m := 3) (k := 4) (by decide) rfl rfl (of_decide_eq_true (by rfl)) rfl (fun g wv hS hF => ?_) (fun v4 => ?_)
  · obtain ⟨⟨s0, s1, s2⟩, hB2⟩ := hS
    exact ⟨.agg #[.slice a0 n0 c0, .slice a1 n1 c1], wv, g, (by go_simp; try with_reducible rfl), ⟨⟨s0, s1, s2⟩, hB2⟩, BxX.same (Mk.refl _ _ _), rfl⟩
  try simp only [Act.put, List.getElem_toArray, List.getElem_cons_succ, List.getElem_cons_zero, List.setIfInBounds_toArray, List.set_cons_zero, List.set_cons_succ]
  refine WkH.value (m := 2) (k := 5) (by decide) rfl rfl (of_decide_eq_true (by rfl)) rfl (fun g wv hS hF => ?_) (fun v5 => ?_)
  · obtain ⟨⟨s0, s1, s2⟩, hB2⟩ := hS
    exact ⟨.int .i64 pt, wv, g, (by go_simp; try with_reducible rfl), ⟨⟨s0, s1, s2⟩, hB2⟩, BxX.same (Mk.refl _ _ _), rfl⟩
  try simp only [Act.put, List.getElem_toArray, List.getElem_cons_succ, List.getElem_cons_zero, List.setIfInBounds_toArray, List.set_cons_zero, List.set_cons_succ]
  refine WkH.value (m := 1) (k := 6) (by decide) rfl rfl (of_decide_eq_true (by rfl)) rfl (fun g wv hS hF => ?_) (fun v6 => ?_)
  · obtain ⟨⟨s0, s1, s2⟩, hB2⟩ := hS
    exact ⟨.int .i64 pf, wv, g, (by go_simp; try with_reducible rfl), ⟨⟨s0, s1, s2⟩, hB2⟩, BxX.same (Mk.refl _ _ _), rfl⟩
  try simp only [Act.put, List.getElem_toArray, List.getElem_cons_succ, List.getElem_cons_zero, List.setIfInBounds_toArray, List.set_cons_zero, List.set_cons_succ]
  refine WkH.call (m := 0) (k := 7) (by decide) rfl rfl (of_decide_eq_true (by rfl)) rfl (fun g wv hS hF => ?_) (fun v7 => ?_)
  · obtain ⟨⟨s0, s1, s2⟩, hB2⟩ := hS
    have f4 : v4 = .agg #[.slice a0 n0 c0, .slice a1 n1 c1] := hF 4 (by rfl)
    obtain rfl := f4
    have f5 : v5 = .int .i64 pt := hF 5 (by rfl)
    obtain rfl := f5
    have f6 : v6 = .int .i64 pf := hF 6 (by rfl)
    obtain rfl := f6
    have f3 : ∃ (A : Option Addr) (N C : Nat) (gs : List HSegment) (lo hi : Nat), v3 = .slice A N C ∧ wv.ownsRow lo 82 3 (.slice A N C) N (rowC 3 HSegment.cell gs) ∧ gs.length = N ∧ R1.length = N ∧ Kids WSegment wv lo hi (fun g => (Value.slice A N C).ownBlock = some g) N gs R1 ∧ (∀ g, (Value.slice A N C).ownBlock = some g → g < hi) ∧ wb.heap.size ≤ lo ∧ lo ≤ hi ∧ hi ≤ wv.heap.size := hF 3 (by rfl)
    obtain ⟨A, N, C, gs, lo, hi, rfl, ow, l1, l2, kk, lt, d1, d2, d3⟩ := f3
    refine ⟨_, _, (by go_simp; first | done | exact ⟨rfl, rfl⟩ | with_reducible rfl), ?_⟩
    refine ((specBetw a0 a1 n0 c0 n1 c1 B z1 pt pf wv (h1.mk (M0.trans s0) hB (.inr (Nat.le_refl _))) (Nat.le_trans hB (M0.trans s0).size) hs)).mono ?_
    rintro e w' ⟨A2, N2, C2, gs2, rfl, ow2, g2, t2, k2, mm⟩
    exact ⟨_, g, rfl, ⟨⟨s0.trans mm, mm.cellAt s1, mm.cellAt s2⟩, hB2.mk0 mm⟩, BxX.same mm, ⟨A, N, C, gs, lo, hi, A2, N2, C2, gs2, wv.heap.size, w'.heap.size, rfl, own_keptR ow mm, l1, l2, kk.mk mm d3 (.inr (.inr (Nat.le_refl _))), lt, d1, d2, rfl, ownsRow_ownR (by decide) ow2, (by obtain ⟨_, _, e9, hca9, hcb9⟩ := ownsRow_sliceR2 ow2; cases e9; exact hca9), hR2.out ▸ t2, (hR2.out ▸ k2).avoid (fun _ h => h.elim), d3, mm.size, Nat.le_refl _⟩⟩
  try simp only [Act.put, List.getElem_toArray, List.getElem_cons_succ, List.getElem_cons_zero, List.setIfInBounds_toArray, List.set_cons_zero, List.set_cons_succ]
  refine WkH.done fun gE wE hE hF => ?_
  clear k0 k1
  obtain ⟨⟨mE, k0, k1⟩, hBE⟩ := hE
  change wpAny _ _ _ _ 2 _ _ _
  have f7 : ∃ (A : Option Addr) (N C : Nat) (gs : List HSegment) (lo hi : Nat) (A2 : Option Addr) (N2 C2 : Nat) (gs2 : List HSegment) (lo2 hi2 : Nat), v3 = .slice A N C ∧ wE.ownsRow lo 82 3 (.slice A N C) N (rowC 3 HSegment.cell gs) ∧ gs.length = N ∧ R1.length = N ∧ Kids WSegment wE lo hi (fun g => (Value.slice A N C).ownBlock = some g) N gs R1 ∧ (∀ g, (Value.slice A N C).ownBlock = some g → g < hi) ∧ wb.heap.size ≤ lo ∧ lo ≤ hi ∧ v7 = .slice A2 N2 C2 ∧ OwnR 3 HSegment.cell wE lo2 hi2 A2 N2 gs2 ∧ (A2 = none → C2 = 0) ∧ R2.length = N2 ∧ Kids WSegment wE lo2 hi2 (fun _ => False) N2 gs2 R2 ∧ hi ≤ lo2 ∧ lo2 ≤ hi2 ∧ hi2 ≤ wE.heap.size := hF 7 (by decide)
  obtain ⟨A, N, C, gs, lo, hi, A2, N2, C2, gs2, lo2, hi2, rfl, ow, l1, l2, kk, lt, d1, d2, rfl, o2, c2, t2, k2, d3, d4, d5⟩ := f7
  clear hF hBE
  have M := M0.trans mE
  have z0 := M0.size
  have hh2 := o2.has.mono d5
  have KK2 := Lib.hid (Kids.append kk k2 l1 l2 d2 d3 d4 (fun g hg => .inr (.inl (Nat.lt_of_lt_of_le (lt g hg) d3))))
  clear kk k2
  refine wpAny_ready (rs := [8]) (by kernel_rfl) (by simp) ?_
  refine (AllReady.cons rfl (fun KK hKK => ?_) AllReady.nil)
  refine step_appR (nc := 3) (cell := HSegment.cell) (by decide) oneSegment (by rfl) (.tmp 10) (.tmp 14) 34 (by rfl) lo 82 i0 _ Try.underlying34 hi0 hz0 rfl hz1 (by rw [hz2]; decide) _ gs N (by rfl) ow A2 N2 C2 gs2 (by rfl) c2 hh2 (by rw [← l2, ← t2]; omega) (by omega) ?_
  intro vv u4 hown4 hgr hat
  refine hKK _ _ ?_
  clear hKK KK
  try simp only [Act.put, List.getElem_toArray, List.getElem_cons_succ, List.getElem_cons_zero, List.setIfInBounds_toArray, List.set_cons_zero, List.set_cons_succ]
  have hK4 := KK2.out.grow hgr d5 hat
  have M4 := M.appR hgr (fun g hg => by have := (ow.lt g hg).1; omega)
  have z4 := hgr.size
  clear KK2 hat hgr
  refine wpAny_ready (rs := [9]) (by kernel_rfl) (by simp) ?_
  refine (AllReady.cons rfl (fun K hK => ?_) AllReady.nil)
  go_simp
  refine hK _ _ ?_
  clear hK K
  try simp only [Act.put, List.getElem_toArray, List.getElem_cons_succ, List.getElem_cons_zero, List.setIfInBounds_toArray, List.set_cons_zero, List.set_cons_succ]
  refine wpAny_doneN (by kernel_rfl) ?_
  refine ‹∀ (a : Act) (w : World), _ → _› _ _ ?_
  go_wp2_with fail
  go_ret
  obtain ⟨A9, C9, rfl, hca9, hcb9⟩ := ownsRow_sliceR2 hown4
  exact ⟨A9, N + N2, C9, rfl, ⟨hca9, hcb9⟩, (OwnN.of_row hown4 (hK4.wide (Nat.le_refl _) (show hi2 ≤ u4.heap.size by omega)) (by rw [List.length_append, l2, t2]) (Nat.le_refl _)).wide (by omega) (Nat.le_refl _), M4⟩

end Go.Proofs.Ytdlafigjkefllaa
