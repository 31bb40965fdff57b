
/- DownSegments of both sides. -/
import Derived.Test.YtdlafigjkefllaaFaS
import Derived.Test.YtdlafigjkefllaaWs
namespace Go.Proofs.Ytdlafigjkefllaa
open Go.ChangeShapes Go.WideShapes Go.ChangeAt Go.RowKit
set_option linter.unusedVariables false
def lastIs (r : Int) (x : TSegment) : Bool := segLast x.hops x.hops.length == r
def firstIs (r : Int) (x : TSegment) : Bool := segFirst x.hops x.hops.length == r
set_option maxRecDepth 100000 in
set_option maxHeartbeats 4000000 in
theorem downCl (x : TSegment) (a3 : Option Addr) (n3 c3 B q : Nat) (r : Int) (w : World) (hr : HasHop w B a3 n3 x.hops) (hB : B ≤ w.heap.size) (hn : n3 ≤ 1048576) (hq : w.cell? ⟨q, 0, none⟩ = some (.int .i64 r)) :
    Calls Try.prog 49 #[.agg #[.int .i64 x.ts, .int .i64 x.beta, .slice a3 n3 c3], .pointer (some ⟨q, 0, none⟩)] w fun e w' => e = .returned (.bool (lastIs r x)) ∧ Mk0 w w' := by
  have M0 : Mk0 w (w.alloc (Obj.cells #[Value.int .i64 x.ts, Value.int .i64 x.beta, Value.slice a3 n3 c3] 82)) := (Mk.alloc w (Obj.cells #[Value.int .i64 x.ts, Value.int .i64 x.beta, Value.slice a3 n3 c3] 82))
  have b0 : (w.alloc (Obj.cells #[Value.int .i64 x.ts, Value.int .i64 x.beta, Value.slice a3 n3 c3] 82)).cell? ⟨w.heap.size, 0, none⟩ = some (.int .i64 x.ts) := by simp [go_sem]
  have b1 : (w.alloc (Obj.cells #[Value.int .i64 x.ts, Value.int .i64 x.beta, Value.slice a3 n3 c3] 82)).cell? ⟨w.heap.size, 1, none⟩ = some (.int .i64 x.beta) := by simp [go_sem]
  have b2 : (w.alloc (Obj.cells #[Value.int .i64 x.ts, Value.int .i64 x.beta, Value.slice a3 n3 c3] 82)).cell? ⟨w.heap.size, 2, none⟩ = some (.slice a3 n3 c3) := by simp [go_sem]
  have hs0 : (w.alloc (Obj.cells #[Value.int .i64 x.ts, Value.int .i64 x.beta, Value.slice a3 n3 c3] 82)).heap.size = w.heap.size + 1 := by simp only [World.size_alloc]
  have hn3 := hr.1
  have hq1 := M0.cellAt hq
  have hrb := hr.mk M0 hB (.inr (Nat.le_refl _))
  have hBb := Nat.le_trans hB M0.size
  go_enter Try.func49, Try.ntmps49
  go_wp2_with fail
  generalize (w.alloc (Obj.cells #[Value.int .i64 x.ts, Value.int .i64 x.beta, Value.slice a3 n3 c3] 82)) = wb at *
  refine wp_region_wk (fun w' => Mk0 wb w' ∧ w'.cell? ⟨w.heap.size, 0, none⟩ = some (.int .i64 x.ts) ∧ w'.cell? ⟨w.heap.size, 1, none⟩ = some (.int .i64 x.beta) ∧ w'.cell? ⟨w.heap.size, 2, none⟩ = some (.slice a3 n3 c3) ∧ w'.cell? ⟨q, 0, none⟩ = some (.int .i64 r)) (by kernel_rfl) (by kernel_rfl) (⟨Mk.drew1 _, b0, b1, b2, hq1⟩) ?_
  change Wk _ _ _ _ 5 0 _
  first | (refine Wk.skip (m := 4) (k := 0) rfl (by rfl) ?_) | (refine Wk.step (m := 4) (k := 0) (v := _) rfl (by rfl) (fun wv hS => by obtain ⟨s0, s1, s2, s3, s4⟩ := hS; go_simp; try with_reducible rfl) ?_)
  try simp only [Act.put, List.getElem_toArray, List.getElem_cons_zero, List.setIfInBounds_toArray, List.set_cons_zero, List.set_cons_succ]
  refine Wk.call (m := 3) (k := 1) (v := .int .i64 (segLast x.hops n3)) _ _ rfl (by rfl) (fun wv hS => by obtain ⟨s0, s1, s2, s3, s4⟩ := hS; go_simp; first | done | exact ⟨rfl, rfl⟩ | with_reducible rfl) (fun wv hS => ?_) ?_; · obtain ⟨s0, s1, s2, s3, s4⟩ := hS; refine (implLast _ _ _ _ _ _ x.hops wv (hrb.mk s0 hBb (.inr (Nat.le_refl _))) (Nat.le_trans hBb s0.size) hn).mono ?_; rintro e w' ⟨rfl, mm⟩; exact ⟨rfl, ⟨s0.trans mm, mm.cellAt s1, mm.cellAt s2, mm.cellAt s3, mm.cellAt s4⟩⟩
  try simp only [Act.put, List.getElem_toArray, List.getElem_cons_succ, List.getElem_cons_zero, List.setIfInBounds_toArray, List.set_cons_zero, List.set_cons_succ]
  first | (refine Wk.skip (m := 2) (k := 2) rfl (by rfl) ?_) | (refine Wk.step (m := 2) (k := 2) (v := _) rfl (by rfl) (fun wv hS => by obtain ⟨s0, s1, s2, s3, s4⟩ := hS; go_simp; try with_reducible rfl) ?_)
  try simp only [Act.put, List.getElem_toArray, List.getElem_cons_succ, List.getElem_cons_zero, List.setIfInBounds_toArray, List.set_cons_zero, List.set_cons_succ]
  first | (refine Wk.skip (m := 1) (k := 3) rfl (by rfl) ?_) | (refine Wk.step (m := 1) (k := 3) (v := _) rfl (by rfl) (fun wv hS => by obtain ⟨s0, s1, s2, s3, s4⟩ := hS; go_simp; try with_reducible rfl) ?_)
  try simp only [Act.put, List.getElem_toArray, List.getElem_cons_succ, List.getElem_cons_zero, List.setIfInBounds_toArray, List.set_cons_zero, List.set_cons_succ]
  first | (refine Wk.skip (m := 0) (k := 4) rfl (by rfl) ?_) | (refine Wk.step (m := 0) (k := 4) (v := _) rfl (by rfl) (fun wv hS => by obtain ⟨s0, s1, s2, s3, s4⟩ := hS; go_simp; try with_reducible rfl) ?_)
  try simp only [Act.put, List.getElem_toArray, List.getElem_cons_succ, List.getElem_cons_zero, List.setIfInBounds_toArray, List.set_cons_zero, List.set_cons_succ]
  refine Wk.done fun wE hE => ?_
  clear b0 b1 b2 hq1
  obtain ⟨mE, b0, b1, b2, hq1⟩ := hE
  go_wp2_with fail
  go_ret
  exact ⟨retB (by unfold lastIs; rw [hn3]), M0.trans mE⟩

set_option maxRecDepth 100000 in
set_option maxHeartbeats 4000000 in
theorem implDown (a0 a1 : Option Addr) (n0 c0 n1 c1 B : Nat) (z0 : List TSegment) (r : Int) (w : World) (h0 : HasSegment w B a0 n0 z0) (hB : B ≤ w.heap.size) (hs : szSegment z0 n0 ≤ 1048576) :
    Calls Try.prog 17 #[.agg #[.slice a0 n0 c0, .slice a1 n1 c1], .int .i64 r] w (OutLSegment (filtUp (lastIs r) z0 n0) w) := by
  have M0 : Mk0 w ((w.alloc (Obj.cells #[Value.slice a0 n0 c0, Value.slice a1 n1 c1] 37)).alloc (Obj.cells #[Value.int .i64 r] 3)) := ((Mk.alloc w (Obj.cells #[Value.slice a0 n0 c0, Value.slice a1 n1 c1] 37)).new (Obj.cells #[Value.int .i64 r] 3))
  have k0 : ((w.alloc (Obj.cells #[Value.slice a0 n0 c0, Value.slice a1 n1 c1] 37)).alloc (Obj.cells #[Value.int .i64 r] 3)).cell? ⟨w.heap.size, 0, none⟩ = some (.slice a0 n0 c0) := by simp [go_sem]
  have k1 : ((w.alloc (Obj.cells #[Value.slice a0 n0 c0, Value.slice a1 n1 c1] 37)).alloc (Obj.cells #[Value.int .i64 r] 3)).cell? ⟨w.heap.size, 1, none⟩ = some (.slice a1 n1 c1) := by simp [go_sem]
  have r0 : ((w.alloc (Obj.cells #[Value.slice a0 n0 c0, Value.slice a1 n1 c1] 37)).alloc (Obj.cells #[Value.int .i64 r] 3)).cell? ⟨w.heap.size + 1, 0, none⟩ = some (.int .i64 r) := by simp [go_sem]
  have hs0 : ((w.alloc (Obj.cells #[Value.slice a0 n0 c0, Value.slice a1 n1 c1] 37)).alloc (Obj.cells #[Value.int .i64 r] 3)).heap.size = w.heap.size + 1 + 1 := by simp only [World.size_alloc]
  have hh := h0.mk M0 hB (.inr (Nat.le_refl _))
  have hBb := Nat.le_trans hB M0.size
  go_enter Try.func17, Try.ntmps17
  go_wp2_with fail
  generalize ((w.alloc (Obj.cells #[Value.slice a0 n0 c0, Value.slice a1 n1 c1] 37)).alloc (Obj.cells #[Value.int .i64 r] 3)) = wb at *
  refine (findSegs1 (lastIs r) 49 (.pointer (some ⟨w.heap.size + 1, 0, none⟩)) a0 n0 c0 B z0 wb hh hBb hs (fun _ _ _ _ _ => rfl) (fun x a3 n3 c3 w1 m hr hb p1 p2 p3 => downCl x a3 n3 c3 B (w.heap.size + 1) r w1 hr (Nat.le_trans hBb m.size) hb (m.cellAt r0))).mono ?_
  rintro e w3 ⟨A3, N3, C3, rfl, hcc, hoo, mm⟩
  go_wp2_with fail
  go_ret
  exact ⟨A3, N3, C3, rfl, hcc, hoo.wide M0.size (Nat.le_refl _), M0.trans mm⟩

set_option maxRecDepth 100000 in
set_option maxHeartbeats 8000000 in
theorem specDown (a0 a1 : Option Addr) (n0 c0 n1 c1 B : Nat) (z0 : List TSegment) (r : Int) (w : World) (h0 : HasSegment w B a0 n0 z0) (hB : B ≤ w.heap.size) (hs : szSegment z0 n0 ≤ 1048576) :
    Calls Try.prog 15 #[.agg #[.slice a0 n0 c0, .slice a1 n1 c1], .int .i64 r] w (OutLSegment (filtUp (lastIs r) z0 n0) w) := by
  have M0 : Mk0 w (w.alloc (Obj.cells #[Value.slice a0 n0 c0, Value.slice a1 n1 c1] 37)) := (Mk.alloc w (Obj.cells #[Value.slice a0 n0 c0, Value.slice a1 n1 c1] 37))
  have k0 : (w.alloc (Obj.cells #[Value.slice a0 n0 c0, Value.slice a1 n1 c1] 37)).cell? ⟨w.heap.size, 0, none⟩ = some (.slice a0 n0 c0) := by simp [go_sem]
  have k1 : (w.alloc (Obj.cells #[Value.slice a0 n0 c0, Value.slice a1 n1 c1] 37)).cell? ⟨w.heap.size, 1, none⟩ = some (.slice a1 n1 c1) := by simp [go_sem]
  have hs0 : (w.alloc (Obj.cells #[Value.slice a0 n0 c0, Value.slice a1 n1 c1] 37)).heap.size = w.heap.size + 1 := by simp only [World.size_alloc]
  have hn : n0 ≤ 1048576 := Nat.le_trans (szSegment_n z0 n0) hs
  obtain ⟨i0, hi0, hz0, hz1, hz2⟩ := info_parts infoRSegment
  have K0 := Lib.hid k0
  clear k0 k1
  go_enter Try.func15, Try.ntmps15
  go_wp2_with fail
  generalize (w.alloc (Obj.cells #[Value.slice a0 n0 c0, Value.slice a1 n1 c1] 37)) = wb at *
  have hA := own_emptyR wb 82 3
  have MA := Mk.alloc wb (.cells #[] 82)
  rw [hs0] at hA
  go_loopw [5, 6] (fun v i wr => ∃ (k : Nat) (gs : List HSegment), k ≤ n0 ∧ i = .int .i64 (k : Int) ∧ gs.length = (filtUp (lastIs r) z0 k).length ∧ wr.ownsRow (w.heap.size + 1) 82 3 v gs.length (rowC 3 HSegment.cell gs) ∧ Hid (Kids WSegment wr (w.heap.size + 1) wr.heap.size (fun g => v.ownBlock = some g) gs.length gs (filtUp (lastIs r) z0 k)) ∧ Mk0 wb wr) (fun _ i _ => n0 - (intOf i).toNat)
  case atStart => exact ⟨0, [], Nat.zero_le _, rfl, rfl, hA, Lib.hid (Kids.none_ _ _ _ _ _ _ _), MA⟩
  case round =>
    clear hA MA
    obtain ⟨k, gs, hk, rfl, hgl, hown, hK, hM⟩ := hrel
    have k0 := hM.cellAt K0.out
    have hMW := M0.trans hM
    have hul := filtUp_le (lastIs r) z0 k
    have hlow := hM.size
    rw [hs0] at hlow
    obtain ⟨L, hL⟩ : ∃ L, Hid (L = gs.length) := ⟨_, Lib.hid rfl⟩
    by_cases hlt : k < n0
    · obtain ⟨b, off, x, rfl, hb, hx, a3, n3, c3, d0, d1, d2, hr, p1, p2, p3⟩ := HasSegment.at _ _ _ _ _ _ (h0.mk hMW hB (.inr (Nat.le_refl _))) hlt
      have hbd : n3 ≤ 1048576 := by have h1 := szSegment_at z0 hlt; rw [← hx.out] at h1; unfold seSegment at h1; have h2 : x.hops.length = n3 := hr.1; omega
      obtain rfl := hr.1
      have hbr := World.block_lt_of_cell? _ _ d0
      simp only at hbr
      have i1 : (0 : Int) ≤ (k : Int) := by omega
      have i2 : (k : Int) < (n0 : Int) := by omega
      have hBr := Nat.le_trans hB hMW.size
      have KP := specLast x.ts x.beta a3 x.hops.length c3 B x.hops wr hr hBr hbd
      cases hp : lastIs r x
      all_goals (have hp2 := hp; unfold lastIs at hp2)
      · have HE := Lib.hid (show filtUp (lastIs r) z0 (k + 1) = filtUp (lastIs r) z0 k by rw [filtUp, ← hx.out, hp]; rfl)
        clear hp
        go_wp2_with fail
        refine KP.mono ?_
        rintro e w2 ⟨rfl, m2⟩
        clear KP
        replace k0 := m2.cellAt k0
        go_wp2_with fail
        go_roundw
        case rel => exact ⟨k + 1, gs, by omega, by go_num, by rw [HE.out]; exact hgl, own_keptR hown m2, by rw [HE.out]; exact Lib.hid ((hK.out.mk m2 (Nat.le_refl _) (.inr (.inr (Nat.le_refl _)))).wide (Nat.le_refl _) m2.size), hM.trans m2⟩
        case measure => simp [intOf]; omega
      · have HE := Lib.hid (show filtUp (lastIs r) z0 (k + 1) = filtUp (lastIs r) z0 k ++ [x] by rw [filtUp, ← hx.out, hp]; rfl)
        clear hp
        go_wp2_with fail
        refine KP.mono ?_
        rintro e w2 ⟨rfl, m2⟩
        clear KP
        replace k0 := m2.cellAt k0
        replace d0 := m2.cellAt d0
        replace d1 := m2.cellAt d1
        replace d2 := m2.cellAt d2
        have hsz2 := m2.size
        have KC := specL9Copy x.ts x.beta a3 x.hops.length c3 B x.hops w2 (hr.mk m2 hBr (.inr (Nat.le_refl _))) (Nat.le_trans hBr m2.size) hbd p3 p1
        have hb2 : b < w2.heap.size := by omega
        go_wp2_with fail
        refine KC.mono ?_
        intro e w3 ho
        clear KC
        have ho2 := ho.c
        obtain ⟨A3, N3, C3, rfl, hcc, hO3, m3⟩ := ho2
        clear ho
        replace k0 := m3.cellAt k0
        have mB := Mk.alloc w3 (Obj.cells #[.int .i64 x.ts, .int .i64 x.beta, .slice A3 N3 C3] 82)
        have mY := (m2.trans m3).trans mB
        have hown2 := own_keptR hown mY
        rw [← hL.out] at hown2
        have hsz3 := m3.size
        have hh := hasR_new (cell := HSegment.cell) (nc := 3) (by decide) w3 82 (⟨x.ts, x.beta, A3, N3, C3⟩ : HSegment) #[.int .i64 x.ts, .int .i64 x.beta, .slice A3 N3 C3] (fun j hj => by match j, hj with | 0, _ => rfl | 1, _ => rfl | 2, _ => rfl)
        have hlo : w.heap.size + 1 ≤ (w3.alloc (Obj.cells #[.int .i64 x.ts, .int .i64 x.beta, .slice A3 N3 C3] 82)).heap.size := Nat.le_trans hlow mY.size
        have hLb : L ≤ k := by rw [hL.out]; omega
        have hK2 := Lib.hid ((((hK.out.mk m2 (Nat.le_refl _) (.inr (.inr (Nat.le_refl _)))).mk m3 m2.size (.inr (.inr (Nat.le_refl _)))).snoc (g := (⟨x.ts, x.beta, A3, N3, C3⟩ : HSegment)) (x := x) rfl hgl.symm (show w.heap.size + 1 ≤ w2.heap.size by omega) m3.size ⟨rfl, rfl, hO3, hcc.2.1, hcc.2.2, hcc.1⟩ m2.size (fun q hq => .inl (Nat.lt_of_lt_of_le (hown.lt q hq).2 m2.size))).mk mB (Nat.le_refl _) (.inr (.inr (Nat.le_refl _))))
        clear hO3 hK
        go_wp2_with (at_builtin; refine wpList_appR4 (by decide) oneSegment rfl (.tmp 23) (.tmp 30) 34 rfl (w.heap.size + 1) 82 i0 _ Try.underlying34 hi0 hz0 rfl hz1 (by rw [hz2]; decide) _ gs L rfl hown2 _ 1 1 [(⟨x.ts, x.beta, A3, N3, C3⟩ : HSegment)] rfl (fun h => by cases h) hh (by omega) hlo ?_; intro v2 w4 hown4 hgr hat)
        have M4 := (hM.trans mY).appR hgr (fun g hg => by rw [hs0]; exact (hown2.lt g hg).1)
        have z4 := hgr.size
        have zB := mB.size
        have hK4 := hK2.out.grow hgr mB.size hat
        clear hK2 hat
        have hGL : (gs ++ [(⟨x.ts, x.beta, A3, N3, C3⟩ : HSegment)]).length = L + 1 := by rw [List.length_append, hL.out]; rfl
        rw [← hGL] at hown4
        go_wp2_with fail
        go_roundw
        case rel => exact ⟨k + 1, gs ++ [(⟨x.ts, x.beta, A3, N3, C3⟩ : HSegment)], by omega, by go_num, by rw [HE.out, List.length_append, List.length_append, hgl]; rfl, hown4, by rw [HE.out, List.length_append]; exact Lib.hid (hK4.wide (Nat.le_refl _) (by omega)), M4⟩
        case measure => simp [intOf]; omega
    · obtain rfl : k = n0 := by omega
      go_wp2_with fail
      go_ret
      obtain ⟨A, C, rfl, hca, hcb⟩ := ownsRow_sliceR2 hown
      exact ⟨A, gs.length, C, rfl, ⟨hca, hcb⟩, (OwnN.of_row hown hK.out hgl.symm (Nat.le_refl _)).wide (by omega) (Nat.le_refl _), hMW⟩

end Go.Proofs.Ytdlafigjkefllaa
