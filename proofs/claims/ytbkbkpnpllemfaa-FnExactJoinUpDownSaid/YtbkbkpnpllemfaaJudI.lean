
/- The meeting of two rows of ASes, from their ends. -/
import Derived.Test.YtbkbkpnpllemfaaPathOf
import Derived.Test.YtbkbkpnpllemfaaBetaAt
import Derived.Laws.NewBlocks
import Derived.Test.YtbkbkpnpllemfaaJ3S
import Derived.BigQuiet
import Derived.Test.YtbkbkpnpllemfaaKp
import Derived.Maps.OwnIn
import Derived.Laws.EntriesVeiled
import Derived.Test.YtbkbkpnpllemfaaFhIn
import Derived.Test.YtbkbkpnpllemfaaJ3I
import Derived.RangeFuncNested
namespace Go.Proofs.Ytbkbkpnpllemfaa
open Go.ChangeShapes Go.WideShapes Go.ChangeAt Go.RowKit
set_option linter.unusedVariables false
def lastIdx (zs : List Int) (v : Int) : Nat → Option Nat
  | 0 => none
  | k + 1 => if zs.getD k 0 = v then some k else lastIdx zs v k
def meetAt (za zb : List Int) (nb : Nat) : Nat → Option (Nat × Nat)
  | 0 => none
  | i + 1 => match lastIdx zb (za.getD i 0) nb with | some k => some (i, k) | none => meetAt za zb nb i
/-- The parts of the path that meets. -/
def judP (x0 y0 : Int) (z0 : List THop) (n0 : Nat) (x1 y1 : Int) (z1 : List THop) (n1 : Nat) : Option (Nat × Nat) → List TPathPart
  | none => []
  | some (i, k) => [mpEl x0 y0 z0 n0 1 i, mpEl x1 y1 z1 n1 4 k]
def judR (x0 y0 : Int) (z0 : List THop) (n0 : Nat) (x1 y1 : Int) (z1 : List THop) (n1 : Nat) : List TPathPart :=
  judP x0 y0 z0 n0 x1 y1 z1 n1 (meetAt (colN THop.nd z0 n0) (colN THop.nd z1 n1) n1 n0)
theorem hasR2 (w : World) (e : TypeId) (g0 g1 : HPathPart) : HasR 4 HPathPart.cell (w.alloc (.cells #[.int .i64 g0.kind, .int .i64 g0.ts, .int .i64 g0.beta, .slice g0.a g0.n g0.c, .int .i64 g1.kind, .int .i64 g1.ts, .int .i64 g1.beta, .slice g1.a g1.n g1.c] e)) (w.alloc (.cells #[.int .i64 g0.kind, .int .i64 g0.ts, .int .i64 g0.beta, .slice g0.a g0.n g0.c, .int .i64 g1.kind, .int .i64 g1.ts, .int .i64 g1.beta, .slice g1.a g1.n g1.c] e)).heap.size (some ⟨w.heap.size, 0, none⟩) 2 [g0, g1] := by
  refine ⟨rfl, fun _ => ⟨_, 0, rfl, by rw [World.size_alloc]; omega, fun j hj => ?_⟩⟩
  rw [Nat.zero_add, World.cell?_alloc_at _ _ _ _ rfl]
  match j, hj with
  | 0, _ => rfl
  | 1, _ => rfl
  | 2, _ => rfl
  | 3, _ => rfl
  | 4, _ => rfl
  | 5, _ => rfl
  | 6, _ => rfl
  | 7, _ => rfl
theorem ownR2 (w : World) (e : TypeId) (g0 g1 : HPathPart) : OwnR 4 HPathPart.cell (w.alloc (.cells #[.int .i64 g0.kind, .int .i64 g0.ts, .int .i64 g0.beta, .slice g0.a g0.n g0.c, .int .i64 g1.kind, .int .i64 g1.ts, .int .i64 g1.beta, .slice g1.a g1.n g1.c] e)) w.heap.size (w.heap.size + 1) (some ⟨w.heap.size, 0, none⟩) 2 [g0, g1] := by
  refine ⟨rfl, fun _ => ⟨_, 0, rfl, Nat.le_refl _, Nat.lt_succ_self _, fun j hj => ⟨?_, ?_⟩⟩⟩
  · rw [Nat.zero_add, World.cell?_alloc_at _ _ _ _ rfl]
    match j, hj with
    | 0, _ => rfl
    | 1, _ => rfl
    | 2, _ => rfl
    | 3, _ => rfl
    | 4, _ => rfl
    | 5, _ => rfl
    | 6, _ => rfl
    | 7, _ => rfl
  · exact World.frozen?_alloc_at _ _ _ _ rfl
end Go.Proofs.Ytbkbkpnpllemfaa
namespace Go.Proofs.Ytbkbkpnpllemfaa
open Go.ChangeShapes Go.WideShapes Go.ChangeAt Go.RowKit
set_option linter.unusedVariables false
set_option maxRecDepth 100000 in
set_option maxHeartbeats 16000000 in
theorem specJud (x0 y0 : Int) (a0 : Option Addr) (n0 c0 B0 : Nat) (z0 : List THop) (x1 y1 : Int) (a1 : Option Addr) (n1 c1 B1 : Nat) (z1 : List THop) (w : World) (h0 : HasHop w B0 a0 n0 z0) (hB0 : B0 ≤ w.heap.size) (hn0 : n0 ≤ 1048576) (hc0 : a0 = none → c0 = 0) (hk0 : n0 ≤ c0) (h1 : HasHop w B1 a1 n1 z1) (hB1 : B1 ≤ w.heap.size) (hn1 : n1 ≤ 1048576) (hc1 : a1 = none → c1 = 0) (hk1 : n1 ≤ c1) :
    Calls Try.prog 52 #[.agg #[.int .i64 x0, .int .i64 y0, .slice a0 n0 c0], .agg #[.int .i64 x1, .int .i64 y1, .slice a1 n1 c1]] w (OutNPath (judR x0 y0 z0 n0 x1 y1 z1 n1) w) := by
  have M0 : Mk0 w (((w.alloc (Obj.cells #[Value.int .i64 x0, Value.int .i64 y0, Value.slice a0 n0 c0] 28)).alloc (Obj.cells #[Value.int .i64 x1, Value.int .i64 y1, Value.slice a1 n1 c1] 28)).alloc (Obj.cells #[Value.slice none 0 0] 42)) := (((Mk.alloc w (Obj.cells #[Value.int .i64 x0, Value.int .i64 y0, Value.slice a0 n0 c0] 28)).new (Obj.cells #[Value.int .i64 x1, Value.int .i64 y1, Value.slice a1 n1 c1] 28)).new (Obj.cells #[Value.slice none 0 0] 42))
  have k0 : (((w.alloc (Obj.cells #[Value.int .i64 x0, Value.int .i64 y0, Value.slice a0 n0 c0] 28)).alloc (Obj.cells #[Value.int .i64 x1, Value.int .i64 y1, Value.slice a1 n1 c1] 28)).alloc (Obj.cells #[Value.slice none 0 0] 42)).cell? ⟨w.heap.size, 0, none⟩ = some (.int .i64 x0) := by simp [go_sem]
  have k1 : (((w.alloc (Obj.cells #[Value.int .i64 x0, Value.int .i64 y0, Value.slice a0 n0 c0] 28)).alloc (Obj.cells #[Value.int .i64 x1, Value.int .i64 y1, Value.slice a1 n1 c1] 28)).alloc (Obj.cells #[Value.slice none 0 0] 42)).cell? ⟨w.heap.size, 1, none⟩ = some (.int .i64 y0) := by simp [go_sem]
  have k2 : (((w.alloc (Obj.cells #[Value.int .i64 x0, Value.int .i64 y0, Value.slice a0 n0 c0] 28)).alloc (Obj.cells #[Value.int .i64 x1, Value.int .i64 y1, Value.slice a1 n1 c1] 28)).alloc (Obj.cells #[Value.slice none 0 0] 42)).cell? ⟨w.heap.size, 2, none⟩ = some (.slice a0 n0 c0) := by simp [go_sem]
  have l0 : (((w.alloc (Obj.cells #[Value.int .i64 x0, Value.int .i64 y0, Value.slice a0 n0 c0] 28)).alloc (Obj.cells #[Value.int .i64 x1, Value.int .i64 y1, Value.slice a1 n1 c1] 28)).alloc (Obj.cells #[Value.slice none 0 0] 42)).cell? ⟨w.heap.size + 1, 0, none⟩ = some (.int .i64 x1) := by simp [go_sem]
  have l1 : (((w.alloc (Obj.cells #[Value.int .i64 x0, Value.int .i64 y0, Value.slice a0 n0 c0] 28)).alloc (Obj.cells #[Value.int .i64 x1, Value.int .i64 y1, Value.slice a1 n1 c1] 28)).alloc (Obj.cells #[Value.slice none 0 0] 42)).cell? ⟨w.heap.size + 1, 1, none⟩ = some (.int .i64 y1) := by simp [go_sem]
  have l2 : (((w.alloc (Obj.cells #[Value.int .i64 x0, Value.int .i64 y0, Value.slice a0 n0 c0] 28)).alloc (Obj.cells #[Value.int .i64 x1, Value.int .i64 y1, Value.slice a1 n1 c1] 28)).alloc (Obj.cells #[Value.slice none 0 0] 42)).cell? ⟨w.heap.size + 1, 2, none⟩ = some (.slice a1 n1 c1) := by simp [go_sem]
  have r0 : (((w.alloc (Obj.cells #[Value.int .i64 x0, Value.int .i64 y0, Value.slice a0 n0 c0] 28)).alloc (Obj.cells #[Value.int .i64 x1, Value.int .i64 y1, Value.slice a1 n1 c1] 28)).alloc (Obj.cells #[Value.slice none 0 0] 42)).cell? ⟨w.heap.size + 1 + 1, 0, none⟩ = some (.slice none 0 0) := by simp [go_sem]
  have hs0 : (((w.alloc (Obj.cells #[Value.int .i64 x0, Value.int .i64 y0, Value.slice a0 n0 c0] 28)).alloc (Obj.cells #[Value.int .i64 x1, Value.int .i64 y1, Value.slice a1 n1 c1] 28)).alloc (Obj.cells #[Value.slice none 0 0] 42)).heap.size = w.heap.size + 1 + 1 + 1 := by simp only [World.size_alloc]
  have fR : ∀ q, (((w.alloc (Obj.cells #[Value.int .i64 x0, Value.int .i64 y0, Value.slice a0 n0 c0] 28)).alloc (Obj.cells #[Value.int .i64 x1, Value.int .i64 y1, Value.slice a1 n1 c1] 28)).alloc (Obj.cells #[Value.slice none 0 0] 42)).frozen? ⟨w.heap.size + 1 + 1, q, none⟩ = false := fun q => by simp [go_sem]
  have hs1 : w.heap.size + 1 + 1 < (((w.alloc (Obj.cells #[Value.int .i64 x0, Value.int .i64 y0, Value.slice a0 n0 c0] 28)).alloc (Obj.cells #[Value.int .i64 x1, Value.int .i64 y1, Value.slice a1 n1 c1] 28)).alloc (Obj.cells #[Value.slice none 0 0] 42)).heap.size := by rw [hs0]; exact Nat.lt_succ_self _
  clear hs0
  go_enter Try.func52, Try.ntmps52
  go_wp2_with fail
  generalize (((w.alloc (Obj.cells #[Value.int .i64 x0, Value.int .i64 y0, Value.slice a0 n0 c0] 28)).alloc (Obj.cells #[Value.int .i64 x1, Value.int .i64 y1, Value.slice a1 n1 c1] 28)).alloc (Obj.cells #[Value.slice none 0 0] 42)) = wb at *
  refine (specASes x0 y0 a0 n0 c0 B0 z0 _ (h0.mk M0 hB0 (.inr (Nat.le_refl _))) (Nat.le_trans hB0 M0.size) hn0).mono ?_
  rintro e w1 ⟨A0, N0, C0, rfl, hz0, ho0, hb0⟩
  have m1 := Mk.of_below hb0
  obtain rfl : n0 = N0 := (colN_len THop.nd z0 n0).symm.trans ho0.1
  replace k0 := m1.cellAt k0
  replace k1 := m1.cellAt k1
  replace k2 := m1.cellAt k2
  replace l0 := m1.cellAt l0
  replace l1 := m1.cellAt l1
  replace l2 := m1.cellAt l2
  replace r0 := m1.cellAt r0
  replace fR := fun q => (m1.frozen (b := w.heap.size + 1 + 1) (o := q) (by omega) (.inr (Nat.zero_le _))).trans (fR q)
  have M1 := M0.trans m1
  have hr0 := ho0.has
  have zs1 := m1.size
  clear hb0 ho0 hz0 M0 m1
  go_wp2_with fail
  refine (specASes x1 y1 a1 n1 c1 B1 z1 _ (h1.mk M1 hB1 (.inr (Nat.le_refl _))) (Nat.le_trans hB1 M1.size) hn1).mono ?_
  rintro e w2 ⟨A1, N1, C1, rfl, hz1, ho1, hb1⟩
  have m2 := Mk.of_below hb1
  obtain rfl : n1 = N1 := (colN_len THop.nd z1 n1).symm.trans ho1.1
  replace k0 := m2.cellAt k0
  replace k1 := m2.cellAt k1
  replace k2 := m2.cellAt k2
  replace l0 := m2.cellAt l0
  replace l1 := m2.cellAt l1
  replace l2 := m2.cellAt l2
  replace r0 := m2.cellAt r0
  replace fR := fun q => (m2.frozen (b := w.heap.size + 1 + 1) (o := q) (by omega) (.inr (Nat.zero_le _))).trans (fR q)
  replace hr0 := hr0.below hb1
  have zs2 := m2.size
  have hr1 := ho1.has
  have M2 := M1.trans m2
  clear hb1 ho1 hz1 M1 m2
  have HR := Lib.hid (show (judR x0 y0 z0 n0 x1 y1 z1 n1) = judP x0 y0 z0 n0 x1 y1 z1 n1 (meetAt (colN THop.nd z0 n0) (colN THop.nd z1 n1) n1 n0) from rfl)
  obtain ⟨za, hza⟩ : ∃ z, z = colN THop.nd z0 n0 := ⟨_, rfl⟩
  rw [← hza] at hr0 HR
  obtain ⟨zb, hzb⟩ : ∃ z, z = colN THop.nd z1 n1 := ⟨_, rfl⟩
  rw [← hzb] at hr1 HR
  clear hza hzb
  go_wp2_with fail
  have K0 := Lib.hid k0
  have K1 := Lib.hid k1
  have K2 := Lib.hid k2
  have L0 := Lib.hid l0
  have L1 := Lib.hid l1
  have L2 := Lib.hid l2
  have R0 := Lib.hid r0
  have FR := Lib.hid fR
  have HR0 := Lib.hid hr0
  have HR1 := Lib.hid hr1
  clear hr0 hr1 fR k0 k1 k2 l0 l1 l2 r0
  go_loopw [7] (fun u wr => (∃ i : Nat, i ≤ n0 ∧ u = .int .i64 ((i : Int) - 1) ∧ Hid (meetAt za zb n1 i = meetAt za zb n1 n0)) ∧ Mk0 w2 wr) (fun u _ => (intOf u + 1).toNat)
  case atStart => exact ⟨⟨n0, Nat.le_refl _, rfl, Lib.hid rfl⟩, Mk.refl _ _ _⟩
  case round =>
    obtain ⟨⟨i, hi, rfl, hme⟩, hM⟩ := hrel
    cases i with
    | zero =>
      rw [show ((0 : Nat) : Int) - 1 = -1 from rfl]
      have HE := Lib.hid (show (judR x0 y0 z0 n0 x1 y1 z1 n1) = [] by rw [HR.out, ← hme.out]; rfl)
      have r0 := hM.cellAt R0.out
      have hzm := hM.size
      have fR := fun q => (hM.frozen (b := w.heap.size + 1 + 1) (o := q) (by omega) (.inr (Nat.zero_le _))).trans (FR.out q)
      go_wp2_with fail
      have r9 := World.cell?_setCell_same _ _ (.slice none 0 0) r0
      refine bodyPost_ret (v := .agg #[.slice none 0 0]) (by simp [results, Try.results52, go_sem, r9]) rfl ⟨none, 0, 0, rfl, ⟨fun _ => rfl, Nat.le_refl _, by decide⟩, ?_, (M2.trans hM).put _ _ (show w.heap.size ≤ w.heap.size + 1 + 1 by omega)⟩
      rw [HE.out]
      exact ⟨rfl, [], w.heap.size, ⟨rfl, fun h => absurd h (Nat.lt_irrefl _)⟩, fun h => absurd h (Nat.lt_irrefl _), Kids.none_ _ _ _ _ _ _ _⟩
    | succ i =>
      obtain ⟨b0, f0, v0, rfl, hb0, hv0, ca⟩ := HR0.out.at_ (i := i) (by omega)
      rw [show ((i + 1 : Nat) : Int) - 1 = (i : Int) by omega]
      have i1 : (0 : Int) ≤ (i : Int) := by omega
      have i2 : (i : Int) < (n0 : Int) := by omega
      go_wp2_with fail
      go_loopw [8] (fun u wq => (∃ k : Nat, k ≤ n1 ∧ u = .int .i64 ((k : Int) - 1) ∧ Hid (lastIdx zb v0 k = lastIdx zb v0 n1)) ∧ Mk0 w2 wq) (fun u _ => (intOf u + 1).toNat)
      case atStart => exact ⟨⟨n1, Nat.le_refl _, rfl, Lib.hid rfl⟩, hM⟩
      case round =>
        clear hM
        obtain ⟨⟨k, hk, rfl, hla⟩, hM⟩ := hrel
        cases k with
        | zero =>
          rw [show ((0 : Nat) : Int) - 1 = -1 from rfl]
          have HE := Lib.hid (show meetAt za zb n1 i = meetAt za zb n1 n0 by rw [← hme.out, meetAt, ← hv0.out, ← hla.out]; rfl)
          go_wp2_with fail
          go_roundw
          case rel => exact ⟨⟨i, by omega, rfl, HE⟩, hM⟩
          case measure => simp [intOf]
        | succ k =>
          obtain ⟨b1, f1, v1, rfl, hb1, hv1, cb⟩ := HR1.out.at_ (i := k) (by omega)
          replace ca := hM.cellAt ca
          replace cb := hM.cellAt cb
          have hbr0 := World.block_lt_of_cell? _ _ ca
          simp only at hbr0
          have hbr1 := World.block_lt_of_cell? _ _ cb
          simp only at hbr1
          rw [show ((k + 1 : Nat) : Int) - 1 = (k : Int) by omega]
          have j1 : (0 : Int) ≤ (k : Int) := by omega
          have j2 : (k : Int) < (n1 : Int) := by omega
          by_cases hv : v0 = v1
          · have HE := Lib.hid (show (judR x0 y0 z0 n0 x1 y1 z1 n1) = [(mpEl x0 y0 z0 n0 1 i), (mpEl x1 y1 z1 n1 4 k)] by rw [HR.out, ← hme.out, meetAt, ← hv0.out, ← hla.out, lastIdx, if_pos (hv1.out.symm.trans hv.symm)]; rfl)
            clear HR hme hla
            subst hv
            go_wp2_with fail
            go_quiet (fail)
            have hM5 := hM.trans (Mk.drewN _ nq)
            clear ca cb hbr0 hbr1
            have k0 := hM5.cellAt K0.out
            have k1 := hM5.cellAt K1.out
            have k2 := hM5.cellAt K2.out
            have l0 := hM5.cellAt L0.out
            have l1 := hM5.cellAt L1.out
            have l2 := hM5.cellAt L2.out
            have r0 := hM5.cellAt R0.out
            have fR := fun q => (hM5.frozen (b := w.heap.size + 1 + 1) (o := q) (by omega) (.inr (Nat.zero_le _))).trans (FR.out q)
            replace M2 := M2.trans hM5
            have hz5 := hM5.size
            clear hM hM5
            generalize World.drewN _ nq = w5 at *
            go_wp2_with fail
            refine wp_region_fh (fun (g : Bxs) w' => (Mk0 w5 w' ∧ w'.cell? ⟨w.heap.size, 0, none⟩ = some (.int .i64 x0) ∧ w'.cell? ⟨w.heap.size, 1, none⟩ = some (.int .i64 y0) ∧ w'.cell? ⟨w.heap.size, 2, none⟩ = some (.slice a0 n0 c0) ∧ w'.cell? ⟨w.heap.size + 1, 0, none⟩ = some (.int .i64 x1) ∧ w'.cell? ⟨w.heap.size + 1, 1, none⟩ = some (.int .i64 y1) ∧ w'.cell? ⟨w.heap.size + 1, 2, none⟩ = some (.slice a1 n1 c1) ∧ w'.cell? ⟨w.heap.size + 1 + 1, 0, none⟩ = some (.slice none 0 0)) ∧ BxS w5.heap.size g w') (fhF [fun g x wv => (x 0) = .agg #[.int .i64 x0, .int .i64 y0, .slice a0 n0 c0], fun g x wv => (x 1) = .int .i64 (i : Int), fun g x wv => ∃ (g2 : HPathPart) (lo2 hi2 : Nat), (x 2) = .agg #[.int .i64 g2.kind, .int .i64 g2.ts, .int .i64 g2.beta, .slice g2.a g2.n g2.c] ∧ WPathPart.kid wv lo2 hi2 g2 (mpEl x0 y0 z0 n0 1 i) ∧ w5.heap.size ≤ lo2 ∧ lo2 ≤ hi2 ∧ hi2 ≤ wv.heap.size, fun g x wv => (x 3) = .agg #[.int .i64 x1, .int .i64 y1, .slice a1 n1 c1], fun g x wv => (x 4) = .int .i64 (k : Int), fun g x wv => ∃ (g2 g5 : HPathPart) (lo2 hi2 lo5 hi5 : Nat), (x 2) = .agg #[.int .i64 g2.kind, .int .i64 g2.ts, .int .i64 g2.beta, .slice g2.a g2.n g2.c] ∧ WPathPart.kid wv lo2 hi2 g2 (mpEl x0 y0 z0 n0 1 i) ∧ w5.heap.size ≤ lo2 ∧ lo2 ≤ hi2 ∧ (x 5) = .agg #[.int .i64 g5.kind, .int .i64 g5.ts, .int .i64 g5.beta, .slice g5.a g5.n g5.c] ∧ WPathPart.kid wv lo5 hi5 g5 (mpEl x1 y1 z1 n1 4 k) ∧ hi2 ≤ lo5 ∧ lo5 ≤ hi5 ∧ hi5 ≤ wv.heap.size, fun g x wv => ∃ (g2 g5 : HPathPart) (lo2 hi2 lo5 hi5 : Nat) (NB : Nat), (x 6) = .slice (some ⟨NB, 0, none⟩) 2 2 ∧ OwnR 4 HPathPart.cell wv NB (NB + 1) (some ⟨NB, 0, none⟩) 2 [g2, g5] ∧ hi5 ≤ NB ∧ NB < wv.heap.size ∧ WPathPart.kid wv lo2 hi2 g2 (mpEl x0 y0 z0 n0 1 i) ∧ w5.heap.size ≤ lo2 ∧ lo2 ≤ hi2 ∧ WPathPart.kid wv lo5 hi5 g5 (mpEl x1 y1 z1 n1 4 k) ∧ hi2 ≤ lo5 ∧ lo5 ≤ hi5 ∧ hi5 ≤ wv.heap.size, fun g x wv => ∃ (g2 g5 : HPathPart) (lo2 hi2 lo5 hi5 : Nat) (NB : Nat), (x 7) = .agg #[.slice (some ⟨NB, 0, none⟩) 2 2] ∧ OwnR 4 HPathPart.cell wv NB (NB + 1) (some ⟨NB, 0, none⟩) 2 [g2, g5] ∧ hi5 ≤ NB ∧ NB < wv.heap.size ∧ WPathPart.kid wv lo2 hi2 g2 (mpEl x0 y0 z0 n0 1 i) ∧ w5.heap.size ≤ lo2 ∧ lo2 ≤ hi2 ∧ WPathPart.kid wv lo5 hi5 g5 (mpEl x1 y1 z1 n1 4 k) ∧ hi2 ≤ lo5 ∧ lo5 ≤ hi5 ∧ hi5 ≤ wv.heap.size]) BxX (fun _ _ => False) (spL [[0], [1], [2], [3], [4], [2, 5], [6], [7]]) 9 8 (by kernel_rfl) (by kernel_rfl) (by kernel_rfl) (by decide) (by decide) (by kernel_rfl) (fun h => absurd h (by decide)) (fhM_mono ⟨fun g g' v w w' h x => h, fun g g' v w w' h x => h, fun g g' v w w' h x => (by obtain ⟨g2, lo2, hi2, e2, q2, p2, d2, z⟩ := h; have xs := x.far.size; exact ⟨g2, lo2, hi2, e2, WPathPart.kid_mk q2 x.far (by omega) (.inr (.inr (Nat.le_refl _))), p2, d2, Nat.le_trans z xs⟩), fun g g' v w w' h x => h, fun g g' v w w' h x => h, fun g g' v w w' h x => (by obtain ⟨g2, g5, lo2, hi2, lo5, hi5, e2, q2, p2, d2, e5, q5, p5, d5, z⟩ := h; have xs := x.far.size; exact ⟨g2, g5, lo2, hi2, lo5, hi5, e2, WPathPart.kid_mk q2 x.far (by omega) (.inr (.inr (Nat.le_refl _))), p2, d2, e5, WPathPart.kid_mk q5 x.far (by omega) (.inr (.inr (Nat.le_refl _))), p5, d5, Nat.le_trans z xs⟩), fun g g' v w w' h x => (by obtain ⟨g2, g5, lo2, hi2, lo5, hi5, NB, e, hr, t1, t2, q2, p2, d2, q5, p5, d5, z⟩ := h; have xs := x.far.size; exact ⟨g2, g5, lo2, hi2, lo5, hi5, NB, e, hr.mk x.far (by omega) (.inr (.inr (Nat.le_refl _))), t1, Nat.lt_of_lt_of_le t2 xs, WPathPart.kid_mk q2 x.far (by omega) (.inr (.inr (Nat.le_refl _))), p2, d2, WPathPart.kid_mk q5 x.far (by omega) (.inr (.inr (Nat.le_refl _))), p5, d5, Nat.le_trans z xs⟩), fun g g' v w w' h x => (by obtain ⟨g2, g5, lo2, hi2, lo5, hi5, NB, e, hr, t1, t2, q2, p2, d2, q5, p5, d5, z⟩ := h; have xs := x.far.size; exact ⟨g2, g5, lo2, hi2, lo5, hi5, NB, e, hr.mk x.far (by omega) (.inr (.inr (Nat.le_refl _))), t1, Nat.lt_of_lt_of_le t2 xs, WPathPart.kid_mk q2 x.far (by omega) (.inr (.inr (Nat.le_refl _))), p2, d2, WPathPart.kid_mk q5 x.far (by omega) (.inr (.inr (Nat.le_refl _))), p5, d5, Nat.le_trans z xs⟩), trivial⟩) ⟨⟨Mk.drew1 _, k0, k1, k2, l0, l1, l2, r0⟩, BxS.none_ _ _⟩ ?_
            change WkH _ _ _ _ _ _ _ 9 8 8 0 _
            refine WkH.value (m := 7) (k := 0) (by decide) rfl rfl (of_decide_eq_true (by rfl)) rfl (fun g wv hS hF => ?_) (fun v0 => ?_)
            · obtain ⟨⟨s0, s1, s2, s3, s4, s5, s6, s7⟩, hB2⟩ := hS
              exact ⟨.agg #[.int .i64 x0, .int .i64 y0, .slice a0 n0 c0], wv, g, (by go_simp; try with_reducible rfl), ⟨⟨s0, s1, s2, s3, s4, s5, s6, s7⟩, hB2⟩, BxX.same (Mk.refl _ _ _), rfl⟩
            try simp only [Act.put, List.getElem_toArray, List.getElem_cons_zero, List.setIfInBounds_toArray, List.set_cons_zero, List.set_cons_succ]
            refine WkH.value (m := 6) (k := 1) (by decide) rfl rfl (of_decide_eq_true (by rfl)) rfl (fun g wv hS hF => ?_) (fun v1 => ?_)
            · obtain ⟨⟨s0, s1, s2, s3, s4, s5, s6, s7⟩, hB2⟩ := hS
              exact ⟨.int .i64 (i : Int), wv, g, (by go_simp; try with_reducible rfl), ⟨⟨s0, s1, s2, s3, s4, s5, s6, s7⟩, hB2⟩, BxX.same (Mk.refl _ _ _), rfl⟩
            try simp only [Act.put, List.getElem_toArray, List.getElem_cons_succ, List.getElem_cons_zero, List.setIfInBounds_toArray, List.set_cons_zero, List.set_cons_succ]
            refine WkH.call (m := 5) (k := 2) (by decide) rfl rfl (of_decide_eq_true (by rfl)) rfl (fun g wv hS hF => ?_) (fun v2 => ?_)
            · obtain ⟨⟨s0, s1, s2, s3, s4, s5, s6, s7⟩, hB2⟩ := hS
              have f0 : v0 = .agg #[.int .i64 x0, .int .i64 y0, .slice a0 n0 c0] := hF 0 (by rfl)
              obtain rfl := f0
              have f1 : v1 = .int .i64 (i : Int) := hF 1 (by rfl)
              obtain rfl := f1
              refine ⟨_, _, (by go_simp; first | done | exact ⟨rfl, rfl⟩ | with_reducible rfl), ?_⟩
              refine ((specMkP x0 y0 a0 n0 c0 B0 z0 1 (i : Int) wv (h0.mk (M2.trans s0) hB0 (.inr (Nat.le_refl _))) (Nat.le_trans hB0 ((M2.trans s0)).size) hn0 hc0 hk0)).mono ?_
              rintro e w' ⟨A, N, C, rfl, hcc, ow, mm⟩
              exact ⟨_, g, rfl, ⟨⟨s0.trans mm, mm.cellAt s1, mm.cellAt s2, mm.cellAt s3, mm.cellAt s4, mm.cellAt s5, mm.cellAt s6, mm.cellAt s7⟩, hB2.mk0 mm⟩, BxX.same mm, ⟨⟨_, _, _, A, N, C⟩, wv.heap.size, w'.heap.size, rfl, ⟨rfl, rfl, rfl, ow, hcc.2.1, hcc.2.2, hcc.1⟩, s0.size, mm.size, Nat.le_refl _⟩⟩
            try simp only [Act.put, List.getElem_toArray, List.getElem_cons_succ, List.getElem_cons_zero, List.setIfInBounds_toArray, List.set_cons_zero, List.set_cons_succ]
            refine WkH.value (m := 4) (k := 3) (by decide) rfl rfl (of_decide_eq_true (by rfl)) rfl (fun g wv hS hF => ?_) (fun v3 => ?_)
            · obtain ⟨⟨s0, s1, s2, s3, s4, s5, s6, s7⟩, hB2⟩ := hS
              exact ⟨.agg #[.int .i64 x1, .int .i64 y1, .slice a1 n1 c1], wv, g, (by go_simp; try with_reducible rfl), ⟨⟨s0, s1, s2, s3, s4, s5, s6, s7⟩, hB2⟩, BxX.same (Mk.refl _ _ _), rfl⟩
            try simp only [Act.put, List.getElem_toArray, List.getElem_cons_succ, List.getElem_cons_zero, List.setIfInBounds_toArray, List.set_cons_zero, List.set_cons_succ]
            refine WkH.value (m := 3) (k := 4) (by decide) rfl rfl (of_decide_eq_true (by rfl)) rfl (fun g wv hS hF => ?_) (fun v4 => ?_)
            · obtain ⟨⟨s0, s1, s2, s3, s4, s5, s6, s7⟩, hB2⟩ := hS
              exact ⟨.int .i64 (k : Int), wv, g, (by go_simp; try with_reducible rfl), ⟨⟨s0, s1, s2, s3, s4, s5, s6, s7⟩, hB2⟩, BxX.same (Mk.refl _ _ _), rfl⟩
            try simp only [Act.put, List.getElem_toArray, List.getElem_cons_succ, List.getElem_cons_zero, List.setIfInBounds_toArray, List.set_cons_zero, List.set_cons_succ]
            refine WkH.call (m := 2) (k := 5) (by decide) rfl rfl (of_decide_eq_true (by rfl)) rfl (fun g wv hS hF => ?_) (fun v5 => ?_)
            · obtain ⟨⟨s0, s1, s2, s3, s4, s5, s6, s7⟩, hB2⟩ := hS
              have f3 : v3 = .agg #[.int .i64 x1, .int .i64 y1, .slice a1 n1 c1] := hF 3 (by rfl)
              obtain rfl := f3
              have f4 : v4 = .int .i64 (k : Int) := hF 4 (by rfl)
              obtain rfl := f4
              have f2 : ∃ (g2 : HPathPart) (lo2 hi2 : Nat), v2 = .agg #[.int .i64 g2.kind, .int .i64 g2.ts, .int .i64 g2.beta, .slice g2.a g2.n g2.c] ∧ WPathPart.kid wv lo2 hi2 g2 (mpEl x0 y0 z0 n0 1 i) ∧ w5.heap.size ≤ lo2 ∧ lo2 ≤ hi2 ∧ hi2 ≤ wv.heap.size := hF 2 (by rfl)
              obtain ⟨g2, lo2, hi2, rfl, q2, p2, d2, z⟩ := f2
              refine ⟨_, _, (by go_simp; first | done | exact ⟨rfl, rfl⟩ | with_reducible rfl), ?_⟩
              refine ((specMkP x1 y1 a1 n1 c1 B1 z1 4 (k : Int) wv (h1.mk (M2.trans s0) hB1 (.inr (Nat.le_refl _))) (Nat.le_trans hB1 ((M2.trans s0)).size) hn1 hc1 hk1)).mono ?_
              rintro e w' ⟨A, N, C, rfl, hcc, ow, mm⟩
              exact ⟨_, g, rfl, ⟨⟨s0.trans mm, mm.cellAt s1, mm.cellAt s2, mm.cellAt s3, mm.cellAt s4, mm.cellAt s5, mm.cellAt s6, mm.cellAt s7⟩, hB2.mk0 mm⟩, BxX.same mm, ⟨g2, ⟨_, _, _, A, N, C⟩, lo2, hi2, wv.heap.size, w'.heap.size, rfl, WPathPart.kid_mk q2 mm (by omega) (.inr (.inr (Nat.le_refl _))), p2, d2, rfl, ⟨rfl, rfl, rfl, ow, hcc.2.1, hcc.2.2, hcc.1⟩, z, mm.size, Nat.le_refl _⟩⟩
            try simp only [Act.put, List.getElem_toArray, List.getElem_cons_succ, List.getElem_cons_zero, List.setIfInBounds_toArray, List.set_cons_zero, List.set_cons_succ]
            refine WkH.value (m := 1) (k := 6) (by decide) rfl rfl (of_decide_eq_true (by rfl)) rfl (fun g wv hS hF => ?_) (fun v6 => ?_)
            · obtain ⟨⟨s0, s1, s2, s3, s4, s5, s6, s7⟩, hB2⟩ := hS
              have f5 : ∃ (g2 g5 : HPathPart) (lo2 hi2 lo5 hi5 : Nat), v2 = .agg #[.int .i64 g2.kind, .int .i64 g2.ts, .int .i64 g2.beta, .slice g2.a g2.n g2.c] ∧ WPathPart.kid wv lo2 hi2 g2 (mpEl x0 y0 z0 n0 1 i) ∧ w5.heap.size ≤ lo2 ∧ lo2 ≤ hi2 ∧ v5 = .agg #[.int .i64 g5.kind, .int .i64 g5.ts, .int .i64 g5.beta, .slice g5.a g5.n g5.c] ∧ WPathPart.kid wv lo5 hi5 g5 (mpEl x1 y1 z1 n1 4 k) ∧ hi2 ≤ lo5 ∧ lo5 ≤ hi5 ∧ hi5 ≤ wv.heap.size := hF 5 (by rfl)
              obtain ⟨g2, g5, lo2, hi2, lo5, hi5, rfl, q2, p2, d2, rfl, q5, p5, d5, z⟩ := f5
              have mm := Mk.alloc wv (Obj.cells #[.int .i64 g2.kind, .int .i64 g2.ts, .int .i64 g2.beta, .slice g2.a g2.n g2.c, .int .i64 g5.kind, .int .i64 g5.ts, .int .i64 g5.beta, .slice g5.a g5.n g5.c] 35)
              exact ⟨.slice (some ⟨wv.heap.size, 0, none⟩) 2 2, (wv.alloc (Obj.cells #[.int .i64 g2.kind, .int .i64 g2.ts, .int .i64 g2.beta, .slice g2.a g2.n g2.c, .int .i64 g5.kind, .int .i64 g5.ts, .int .i64 g5.beta, .slice g5.a g5.n g5.c] 35)), g, (by go_simp; try with_reducible rfl), ⟨⟨s0.trans mm, mm.cellAt s1, mm.cellAt s2, mm.cellAt s3, mm.cellAt s4, mm.cellAt s5, mm.cellAt s6, mm.cellAt s7⟩, hB2.mk0 mm⟩, BxX.same mm, (by have zm := mm.size; exact ⟨g2, g5, lo2, hi2, lo5, hi5, wv.heap.size, rfl, ownR2 wv 35 g2 g5, z, by rw [World.size_alloc]; exact Nat.lt_succ_self _, WPathPart.kid_mk q2 mm (by omega) (.inr (.inr (Nat.le_refl _))), p2, d2, WPathPart.kid_mk q5 mm (by omega) (.inr (.inr (Nat.le_refl _))), p5, d5, Nat.le_trans z zm⟩)⟩
            try simp only [Act.put, List.getElem_toArray, List.getElem_cons_succ, List.getElem_cons_zero, List.setIfInBounds_toArray, List.set_cons_zero, List.set_cons_succ]
            refine WkH.value (m := 0) (k := 7) (by decide) rfl rfl (of_decide_eq_true (by rfl)) rfl (fun g wv hS hF => ?_) (fun v7 => ?_)
            · obtain ⟨⟨s0, s1, s2, s3, s4, s5, s6, s7⟩, hB2⟩ := hS
              have f6 : ∃ (g2 g5 : HPathPart) (lo2 hi2 lo5 hi5 : Nat) (NB : Nat), v6 = .slice (some ⟨NB, 0, none⟩) 2 2 ∧ OwnR 4 HPathPart.cell wv NB (NB + 1) (some ⟨NB, 0, none⟩) 2 [g2, g5] ∧ hi5 ≤ NB ∧ NB < wv.heap.size ∧ WPathPart.kid wv lo2 hi2 g2 (mpEl x0 y0 z0 n0 1 i) ∧ w5.heap.size ≤ lo2 ∧ lo2 ≤ hi2 ∧ WPathPart.kid wv lo5 hi5 g5 (mpEl x1 y1 z1 n1 4 k) ∧ hi2 ≤ lo5 ∧ lo5 ≤ hi5 ∧ hi5 ≤ wv.heap.size := hF 6 (by rfl)
              obtain ⟨g2, g5, lo2, hi2, lo5, hi5, NB, rfl, hr, t1, t2, q2, p2, d2, q5, p5, d5, z⟩ := f6
              exact ⟨.agg #[.slice (some ⟨NB, 0, none⟩) 2 2], wv, g, (by go_simp; try with_reducible rfl), ⟨⟨s0, s1, s2, s3, s4, s5, s6, s7⟩, hB2⟩, BxX.same (Mk.refl _ _ _), ⟨g2, g5, lo2, hi2, lo5, hi5, NB, rfl, hr, t1, t2, q2, p2, d2, q5, p5, d5, z⟩⟩
            try simp only [Act.put, List.getElem_toArray, List.getElem_cons_succ, List.getElem_cons_zero, List.setIfInBounds_toArray, List.set_cons_zero, List.set_cons_succ]
            refine WkH.done fun gE wE hE hF => ?_
            clear k0 k1 k2 l0 l1 l2 r0
            obtain ⟨⟨mE, k0, k1, k2, l0, l1, l2, r0⟩, hBE⟩ := hE
            change wpAny _ _ _ _ 1 _ _ _
            have f7 : ∃ (g2 g5 : HPathPart) (lo2 hi2 lo5 hi5 : Nat) (NB : Nat), v7 = .agg #[.slice (some ⟨NB, 0, none⟩) 2 2] ∧ OwnR 4 HPathPart.cell wE NB (NB + 1) (some ⟨NB, 0, none⟩) 2 [g2, g5] ∧ hi5 ≤ NB ∧ NB < wE.heap.size ∧ WPathPart.kid wE lo2 hi2 g2 (mpEl x0 y0 z0 n0 1 i) ∧ w5.heap.size ≤ lo2 ∧ lo2 ≤ hi2 ∧ WPathPart.kid wE lo5 hi5 g5 (mpEl x1 y1 z1 n1 4 k) ∧ hi2 ≤ lo5 ∧ lo5 ≤ hi5 ∧ hi5 ≤ wE.heap.size := hF 7 (by decide)
            obtain ⟨g2, g5, lo2, hi2, lo5, hi5, NB, rfl, hO, t1, t2, q2, p2, d2, q5, p5, d5, z⟩ := f7
            clear hF hBE
            have fE : ∀ q, wE.frozen? ⟨w.heap.size + 1 + 1, q, none⟩ = false := fun q => (mE.frozen (b := w.heap.size + 1 + 1) (o := q) (by omega) (.inr (Nat.zero_le _))).trans (fR q)
            refine wpAny_ready (rs := [8]) (by kernel_rfl) (by simp) ?_
            refine (AllReady.cons rfl (fun K hK => ?_) AllReady.nil)
            go_simp
            refine hK _ _ ?_
            clear hK K
            try simp only [Act.put, List.getElem_toArray, List.getElem_cons_succ, List.getElem_cons_zero, List.setIfInBounds_toArray, List.set_cons_zero, List.set_cons_succ]
            refine wpAny_doneN (by kernel_rfl) ?_
            refine ‹∀ (a : Act) (w : World), _ → _› _ _ ?_
            have ME := M2.trans mE
            replace r0 := World.cell?_setCell_same _ _ (.slice (some ⟨NB, 0, none⟩) 2 2) r0
            have HK : Kids WPathPart wE w5.heap.size hi5 (fun q => 0 < 2 ∧ q = NB) 2 [g2, g5] [(mpEl x0 y0 z0 n0 1 i), (mpEl x1 y1 z1 n1 4 k)] := Kids.snoc (gs := [g2]) (ts := [(mpEl x0 y0 z0 n0 1 i)]) (n := 1) (Kids.snoc (gs := []) (ts := []) (n := 0) (Kids.none_ _ _ _ w5.heap.size _ _ _) rfl rfl p2 d2 q2 p2 (fun b hb => .inr (by have := hb.2; omega))) rfl rfl (by omega) d5 q5 p5 (fun b hb => .inr (by have := hb.2; omega))
            have hO2 := hO.set ⟨w.heap.size + 1 + 1, 0, none⟩ (.slice (some ⟨NB, 0, none⟩) 2 2) (.inl (show w.heap.size + 1 + 1 < NB by omega))
            have HK2 := HK.set ⟨w.heap.size + 1 + 1, 0, none⟩ (.slice (some ⟨NB, 0, none⟩) 2 2) (.inr (.inl (show w.heap.size + 1 + 1 < w5.heap.size by omega)))
            clear hO HK q2 q5
            have MS := ME.put ⟨w.heap.size + 1 + 1, 0, none⟩ (.slice (some ⟨NB, 0, none⟩) 2 2) (show w.heap.size ≤ w.heap.size + 1 + 1 by omega)
            have zS : (wE.setCell ⟨w.heap.size + 1 + 1, 0, none⟩ (.slice (some ⟨NB, 0, none⟩) 2 2)).heap.size = wE.heap.size := by simp only [World.size_set]
            generalize (wE.setCell ⟨w.heap.size + 1 + 1, 0, none⟩ (.slice (some ⟨NB, 0, none⟩) 2 2)) = w9 at *
            have HOwn : OwnN WPathPart w9 w.heap.size w9.heap.size (some ⟨NB, 0, none⟩) 2 (judR x0 y0 z0 n0 x1 y1 z1 n1) := by rw [HE.out]; exact ⟨rfl, [g2, g5], NB, hO2, fun _ => ⟨by omega, by omega⟩, HK2.wide (by omega) (by omega)⟩
            go_wp2_with fail
            refine bodyPost_ret (v := .agg #[.slice (some ⟨NB, 0, none⟩) 2 2]) (by simp [results, Try.results52, go_sem, r0]) rfl ⟨_, 2, 2, rfl, ⟨fun h => (by cases h), Nat.le_refl _, by decide⟩, HOwn, MS⟩
          · have HE := Lib.hid (show lastIdx zb v0 k = lastIdx zb v0 n1 by rw [← hla.out, lastIdx, if_neg (fun h => hv (hv1.out.trans h).symm)])
            go_wp2_with fail
            go_quiet (fail)
            have hM5 := hM.trans (Mk.drewN _ nq)
            go_wp2_with fail
            go_roundw
            case rel => exact ⟨⟨k, by omega, rfl, HE⟩, hM5⟩
            case measure => simp [intOf]

end Go.Proofs.Ytbkbkpnpllemfaa
namespace Go.Proofs.Ytbkbkpnpllemfaa
open Go Go.Proofs Go.RowKit Go.Shelf Go.ChangeShapes Go.WideShapes Go.ChangeAt
set_option linter.unusedVariables false
attribute [local go_sem] Oper.semAt_some
def bwL (zs : List Int) (n : Nat) : Nat → List (Int × Int)
  | 0 => []
  | k + 1 => bwL zs n k ++ [(((n - 1 - k : Nat) : Int), zs.getD (n - 1 - k) 0)]
theorem bwL_len (zs : List Int) (n : Nat) : ∀ k, (bwL zs n k).length = k
  | 0 => rfl
  | k + 1 => by simp [bwL, bwL_len zs n k]
theorem bwL_pre (zs : List Int) (n k : Nat) : ∀ m, k ≤ m → bwL zs n k <+: bwL zs n m
  | 0, h => by obtain rfl : k = 0 := by omega
               exact List.prefix_refl _
  | m + 1, h => by
    by_cases e : k = m + 1
    · rw [e]; exact List.prefix_refl _
    · exact (bwL_pre zs n k m (by omega)).trans (List.prefix_append _ _)

theorem bw_all (zs : List Int) (v : Int) (n : Nat) : ∀ k, k ≤ n → (∀ p ∈ bwL zs n k, p.2 ≠ v) → lastIdx zs v n = lastIdx zs v (n - k)
  | 0, _, _ => rfl
  | k + 1, hk, h => by
    have h1 := bw_all zs v n k (by omega) (fun p hp => h p (by unfold bwL; exact List.mem_append_left _ hp))
    have h2 := h (((n - 1 - k : Nat) : Int), zs.getD (n - 1 - k) 0) (by unfold bwL; exact List.mem_append_right _ (List.mem_singleton.2 rfl))
    rw [h1, show n - k = (n - 1 - k) + 1 by omega, lastIdx, if_neg h2, show n - (k + 1) = n - 1 - k by omega]
theorem bw_hit (zs : List Int) (v : Int) (n : Nat) (pre : List (Int × Int)) (p : Int × Int) (h : (pre ++ [p]) <+: bwL zs n n) (ha : ∀ q ∈ pre, q.2 ≠ v) (hp : p.2 = v) : ∃ k : Nat, k < n ∧ p.1 = (k : Int) ∧ lastIdx zs v n = some k := by
  have hl := h.length_le
  rw [bwL_len, List.length_append, List.length_singleton] at hl
  have h1 := bwL_pre zs n (pre.length + 1) n hl
  have h2 : pre ++ [p] = bwL zs n (pre.length + 1) := by
    rw [List.prefix_iff_eq_take.1 h, List.prefix_iff_eq_take.1 h1, bwL_len, List.length_append]
    rfl
  unfold bwL at h2
  obtain ⟨e1, e2⟩ := List.append_inj h2 (bwL_len _ _ _).symm
  have e3 := List.cons.inj e2
  refine ⟨n - 1 - pre.length, by omega, by rw [e3.1], ?_⟩
  rw [bw_all zs v n pre.length (by omega) (by rw [← e1]; exact ha), show n - pre.length = (n - 1 - pre.length) + 1 by omega, lastIdx, if_pos (by rw [← hp, e3.1])]
theorem bw_none (zs : List Int) (v : Int) (n : Nat) (h : ∀ p ∈ bwL zs n n, p.2 ≠ v) : lastIdx zs v n = none := by
  rw [bw_all zs v n n (Nat.le_refl _) h, Nat.sub_self]
  rfl

set_option maxRecDepth 100000 in
set_option maxHeartbeats 2000000 in
theorem backward_in (a : Option Addr) (n c : Nat) (w : World) :
    CallsIn Fence.wide 5 Try.prog 80 #[.slice a n c] w fun e w' => e = .returned (.func (.func 99) #[] #[.pointer (some ⟨w.heap.size, 0, none⟩)]) ∧ w' = w.alloc (.cells #[.slice a n c] 49) := by
  refine callsIn_of_wp Try.func80 rfl trivial ?_ rfl
  simp only [Try.ntmps80, List.size_toArray, List.length_cons, List.length_nil, Nat.reduceAdd, Nat.reduceSub, Array.replicate_succ, Array.replicate_zero, List.push_toArray, List.append_toArray, List.nil_append, List.cons_append]
  gi_wp2
  go_ret
  exact ⟨rfl, rfl⟩

set_option maxRecDepth 100000 in
set_option maxHeartbeats 4000000 in
theorem backward1_in (l Bn n₀ : Nat) (a : Option Addr) (n c : Nat) (zs : List Int) (J Jx : List (Int × Int) → World → Prop) (hn : n ≤ 1073741824)
    (hY : ∀ pre x W, J pre W → pre.length < n → YieldAt Fence.wide 4 Try.prog l #[.int .i64 x.1, .int .i64 x.2] W fun e W' =>
      (e = .returned (.bool true) ∧ J (pre ++ [x]) W' ∧ KpC Bn n₀ W W') ∨ (e = .returned (.bool false) ∧ Jx (pre ++ [x]) W'))
    (W : World) (hBn : W.cell? ⟨Bn, 0, none⟩ = some (.slice a n c)) (hH : Has .i64 W n₀ a n zs) (h0 : J [] W) :
    CallsIn Fence.wide 5 Try.prog 99 #[.func (.yield l) #[] #[], .pointer (some ⟨Bn, 0, none⟩)] W fun e W' => (∃ v, e = .returned v) ∧
      ((∃ ys, ys = bwL zs n n ∧ J ys W') ∨ (∃ pre, pre <+: bwL zs n n ∧ Jx pre W')) := by
  refine callsIn_of_wp Try.func99 rfl trivial ?_ rfl
  simp only [Try.ntmps99, List.size_toArray, List.length_cons, List.length_nil, Nat.reduceAdd, Nat.reduceSub, Array.replicate_succ, Array.replicate_zero, List.push_toArray, List.append_toArray, List.nil_append, List.cons_append]
  gi_wp2
  gi_loopw [3] (fun i wr => ∃ k : Nat, k ≤ n ∧ i = .int .i64 ((n : Int) - 1 - k) ∧ wr.cell? ⟨Bn, 0, none⟩ = some (.slice a n c) ∧ Has .i64 wr n₀ a n zs ∧ J (bwL zs n k) wr) (fun i _ => (intOf i + 1).toNat)
  case atStart => exact ⟨0, by omega, by simp, hBn, hH, h0⟩
  case round =>
    obtain ⟨k, hk, rfl, hB, hH, hJ⟩ := hrel
    by_cases hlt : k < n
    · obtain ⟨b, off, z, rfl, hb, hz, hc⟩ := hH.at_ (i := n - 1 - k) (by omega)
      have hi : (n : Int) - 1 - k = ((n - 1 - k : Nat) : Int) := by omega
      have he : bwL zs n (k + 1) = bwL zs n k ++ [(((n - 1 - k : Nat) : Int), z)] := by rw [hz.out]; rfl
      have hl := bwL_len zs n k
      obtain ⟨fn, tmps, assign, body, hy, hR⟩ := hY (bwL zs n k) ((((n - 1 - k : Nat) : Int)), z) wr hJ (by omega)
      have HE := Lib.hid he
      clear he hl
      obtain ⟨j, hj⟩ : ∃ j, j = n - 1 - k := ⟨_, rfl⟩
      rw [← hj] at hc hi hy hR
      rw [hi]
      dsimp only at hy
      have HJ := Lib.hid hj
      clear hj
      gi_wp2
      refine hR.mono ?_
      rintro e W3 (⟨rfl, hJ3, hk3⟩ | ⟨rfl, hJx3⟩)
      · have hB3 := hk3.cell.trans hB
        have hH3 := hH.below hk3.1
        gi_wp2
        go_roundw
        case rel => exact ⟨k + 1, by omega, congrArg (Value.int .i64) (by have := HJ.out; omega), hB3, hH3, by rw [HE.out, ← HJ.out]; exact hJ3⟩
        case measure => simp [intOf]
      · gi_wp2
        refine bodyPost_ret (results_none rfl _ _ _) rfl ?_
        exact ⟨⟨_, rfl⟩, .inr ⟨bwL zs n k ++ [((j : Int), z)], by rw [HJ.out, ← HE.out]; exact bwL_pre zs n (k + 1) n (by omega), hJx3⟩⟩
    · obtain rfl : k = n := by omega
      have hi : (k : Int) - 1 - k = -1 := by omega
      rw [hi]
      gi_wp2
      go_end0
      exact ⟨⟨_, rfl⟩, .inl ⟨bwL zs k k, rfl, hJ⟩⟩

theorem backward_stops (Bn n₀ : Nat) (a : Option Addr) (n c : Nat) (zs : List Int) (w : World) (hn : n ≤ 1073741824) (hBn : Bn < w.heap.size) (hn₀ : n₀ ≤ w.heap.size) (hc : w.cell? ⟨Bn, 0, none⟩ = some (.slice a n c)) (hH : Has .i64 w n₀ a n zs) :
    SeqStopsK Fence.wide 5 Try.prog 99 #[.pointer (some ⟨Bn, 0, none⟩)] (fun x : Int × Int => #[Value.int .i64 x.1, Value.int .i64 x.2]) (KpC Bn n₀) (fun ys => ys = bwL zs n n) (fun pre => pre <+: bwL zs n n) n w := fun l J Jx W hW _ _ hY h0 =>
  backward1_in l Bn n₀ a n c zs J Jx hn hY W ((hW.cell (p := ⟨Bn, 0, none⟩) hBn).trans hc) (hH.below (hW.mono hn₀)) h0


end Go.Proofs.Ytbkbkpnpllemfaa
namespace Go.Proofs.Ytbkbkpnpllemfaa
open Go Go.Proofs Go.RowKit Go.Shelf Go.ChangeShapes Go.WideShapes Go.ChangeAt
set_option linter.unusedVariables false
attribute [local go_sem] Oper.semAt_some
def liV (o : Option Nat) : Int := match o with | some k => (k : Int) | none => -1

set_option maxRecDepth 100000 in
set_option maxHeartbeats 4000000 in
theorem lastIndex_in (a : Option Addr) (n c B : Nat) (v : Int) (zs : List Int) (w : World) (h : Has .i64 w B a n zs) (hB : B ≤ w.heap.size) (hn : n ≤ 1073741824) :
    CallsIn Fence.wide 6 Try.prog 55 #[.slice a n c, .int .i64 v] w fun e w' => e = .returned (.int .i64 (liV (lastIdx zs v n))) ∧ Below w.heap.size w w' := by
  refine callsIn_of_wp_marks Try.func55 rfl trivial ?_ rfl
  simp only [Try.ntmps55, List.size_toArray, List.length_cons, List.length_nil, Nat.reduceAdd, Nat.reduceSub, Array.replicate_succ, Array.replicate_zero, List.push_toArray, List.append_toArray, List.nil_append, List.cons_append]
  gi_wp2_with (refine ⟨trivial, ?_⟩; gi_at_call 80; refine (backward_in _ _ _ _).mono ?_; rintro e w' ⟨rfl, rfl⟩)
  have cv := cellNew w (.int .i64 v) 3
  have cr := cellNew (w.alloc (.cells #[.int .i64 v] 3)) (.int .i64 0) 3
  have cb := cellNew ((w.alloc (.cells #[.int .i64 v] 3)).alloc (.cells #[.int .i64 0] 3)) (.slice a n c) 49
  simp only [World.size_alloc] at cr cb
  have hB0 : Below w.heap.size w (((w.alloc (.cells #[.int .i64 v] 3)).alloc (.cells #[.int .i64 0] 3)).alloc (.cells #[.slice a n c] 49)) := (((Below.refl _ w).alloc (Nat.le_refl _) _).alloc (by simp) _).alloc (by simp; omega) _
  have h0 := h.mono hB
  refine wpIn_rangeFunc_ownF rfl (by decide) (gf := 99) (lb := #[.pointer (some ⟨w.heap.size + 1 + 1, 0, none⟩)]) rfl trivial (enters_of Try.func99 (by kernel_rfl) rfl)
    (backward_stops (w.heap.size + 1 + 1) w.heap.size a n c zs _ hn (by simp) (by simp; omega) cb.1 (h0.below hB0)) KpC.t (KpC.b (by simp; omega) (by simp)) (Below.refl _ _) (fun _ => rfl)
    (fun (pre : List (Int × Int)) W => ((∀ p ∈ pre, p.2 ≠ v) ∧ W.cell? ⟨w.heap.size, 0, none⟩ = some (.int .i64 v) ∧ W.cell? ⟨w.heap.size + 1, 0, none⟩ = some (.int .i64 0) ∧ W.frozen? ⟨w.heap.size + 1, 0, none⟩ = false) ∧ Below w.heap.size w W)
    (fun k (pre : List (Int × Int)) W => (k = .ret ∧ ∃ q p, pre = q ++ [p] ∧ (∀ x ∈ q, x.2 ≠ v) ∧ p.2 = v ∧ W.cell? ⟨w.heap.size + 1, 0, none⟩ = some (.int .i64 p.1)) ∧ Below w.heap.size w W)
    (OwnFrom.and (Own.from (fun s A B row hs hg hr => ⟨hs.1, Go.cell_kept hs.2.1 hg hr, Go.cell_kept hs.2.2.1 hg hr, (Go.frozen_kept hs.2.2.1 hg hr).trans hs.2.2.2⟩) _) (ownFrom_below (Nat.le_refl _) (by simp; omega)))
    (fun k => OwnFrom.and (Own.from (fun s A B row hs hg hr => (by obtain ⟨e, q, p, e1, e2, e3, e4⟩ := hs; exact ⟨e, q, p, e1, e2, e3, Go.cell_kept e4 hg hr⟩)) _) (ownFrom_below (Nat.le_refl _) (by simp; omega)))
    ⟨⟨fun p hp => (by cases hp), cellKeep _ (cellKeep _ cv.1), cellKeep _ cr.1, frozenKeep _ cr.1 cr.2⟩, hB0⟩
    (fun p => { tmps := #[.slice a n c, .int .i64 v, undef, .pointer (some ⟨w.heap.size, 0, none⟩), .pointer (some ⟨w.heap.size + 1, 0, none⟩), .int .i64 p.1, .int .i64 p.2, .slice a n c, .func (.func 99) #[] #[.pointer (some ⟨w.heap.size + 1 + 1, 0, none⟩)], .int .i64 p.1, .int .i64 p.2, undef, undef, undef, undef], defers := [] }) ?assign ?body ?done ?stop
  case assign =>
    intro l x W K hK
    gi_wp2
    exact hK
  case body =>
    rintro l pre p W ⟨⟨ha, hv, hr, hf⟩, hBw⟩ hlt
    by_cases e : p.2 = v
    · gi_wp2
      refine ⟨KeepsOthers.setCell _ _ _, ⟨rfl, pre, p, rfl, ha, e, ?_⟩, hBw.setCell (p := ⟨w.heap.size + 1, 0, none⟩) (by simp) _⟩
      exact World.cell?_setCell_same' W ⟨w.heap.size + 1, 0, none⟩ _ (by rw [hr]; rfl)
    · gi_wp2
      refine ⟨KeepsOthers.refl _, ⟨Below.refl _ _, rfl⟩, ⟨?_, hv, hr, hf⟩, hBw⟩
      intro q hq
      rcases List.mem_append.1 hq with hq | hq
      · exact ha q hq
      · rw [List.mem_singleton.1 hq]
        exact e
  case done =>
    rintro D ys W hD rfl ⟨⟨ha, hv, hr, hf⟩, hBw⟩ hK
    have hli := bw_none zs v n ha
    gi_wp2
    have hK2 : (W.setCell ⟨w.heap.size + 1, 0, none⟩ (.int .i64 (-1))).heap[D]? = some (.deferred (some [])) := (Below.heap_setCell _ _ _ _ (by simp at hD ⊢; omega)).trans hK
    refine ⟨by simp, .inl ⟨_, _, rfl, run_takeDeferred hK2, ?_⟩⟩
    have hr2 := World.cell?_setCell_same' W ⟨w.heap.size + 1, 0, none⟩ (.int .i64 (-1)) (by rw [hr]; rfl)
    have hr3 := Go.cell_kept hr2 (grownBy_putObj' _ D (.deferred none)) (fun r e => by cases e; exact ⟨_, hK2, rfl⟩)
    refine ⟨.int .i64 (-1), by simp [results, Try.results55, go_sem, hr3], by rw [hli]; rfl, ?_⟩
    exact (hBw.setCell (p := ⟨w.heap.size + 1, 0, none⟩) (by simp) _).trans (belowK_b (w := w) (Nat.le_refl _) _ D _ _ (by simp at hD; omega) hK2 rfl rfl)
  case stop =>
    rintro D k pre W hD hSp ⟨⟨rfl, q, p, rfl, ha, hp, hr⟩, hBw⟩ hK
    obtain ⟨j, hj, e1, e2⟩ := bw_hit zs v n q p hSp ha hp
    gi_wp2
    refine ⟨by simp, .inl ⟨_, _, rfl, run_takeDeferred hK, ?_⟩⟩
    have hr3 := Go.cell_kept hr (grownBy_putObj' _ D (.deferred none)) (fun r e => by cases e; exact ⟨_, hK, rfl⟩)
    refine ⟨.int .i64 p.1, by simp [results, Try.results55, go_sem, hr3], by rw [e2, e1]; rfl, ?_⟩
    exact hBw.trans (belowK_b (w := w) (Nat.le_refl _) _ D _ _ (by simp at hD; omega) hK rfl rfl)

theorem implLastI (a : Option Addr) (n c B : Nat) (v : Int) (zs : List Int) (w : World) (h : Has .i64 w B a n zs) (hB : B ≤ w.heap.size) (hn : n ≤ 1073741824) :
    Calls Try.prog 55 #[.slice a n c, .int .i64 v] w fun e w' => e = .returned (.int .i64 (liV (lastIdx zs v n))) ∧ Below w.heap.size w w' :=
  callsIn_wide.1 (lastIndex_in a n c B v zs w h hB hn)

end Go.Proofs.Ytbkbkpnpllemfaa
namespace Go.Proofs.Ytbkbkpnpllemfaa
open Go Go.Proofs Go.RowKit Go.Shelf Go.ChangeShapes Go.WideShapes Go.ChangeAt
set_option linter.unusedVariables false
attribute [local go_sem] Oper.semAt_some
theorem HasHop.lower {w w' : World} {B n : Nat} {a : Option Addr} {zs : List THop} (h : HasHop w B a n zs) (hb : Below B w w') : HasHop w' B a n zs :=
  ⟨h.1, fun hn => by
    obtain ⟨b, off, e, h1, h2⟩ := h.2 hn
    exact ⟨b, off, e, h1, fun j hj => (hb.cell (p := ⟨b, off + j, none⟩) h1).trans (h2 j hj)⟩⟩
def bwH (zs : List THop) (n : Nat) : Nat → List (Int × THop)
  | 0 => []
  | k + 1 => bwH zs n k ++ [(((n - 1 - k : Nat) : Int), zs.getD (n - 1 - k) default)]
theorem bwH_len (zs : List THop) (n : Nat) : ∀ k, (bwH zs n k).length = k
  | 0 => rfl
  | k + 1 => by simp [bwH, bwH_len zs n k]
theorem bwH_pre (zs : List THop) (n k : Nat) : ∀ m, k ≤ m → bwH zs n k <+: bwH zs n m
  | 0, h => by obtain rfl : k = 0 := by omega
               exact List.prefix_refl _
  | m + 1, h => by
    by_cases e : k = m + 1
    · rw [e]; exact List.prefix_refl _
    · exact (bwH_pre zs n k m (by omega)).trans (List.prefix_append _ _)
theorem bh_all (zs : List THop) (zb : List Int) (nb n : Nat) : ∀ k, k ≤ n → (∀ p ∈ bwH zs n k, lastIdx zb p.2.nd nb = none) → meetAt (colN THop.nd zs n) zb nb n = meetAt (colN THop.nd zs n) zb nb (n - k)
  | 0, _, _ => rfl
  | k + 1, hk, h => by
    have h1 := bh_all zs zb nb n k (by omega) (fun p hp => h p (by unfold bwH; exact List.mem_append_left _ hp))
    have h2 := h (((n - 1 - k : Nat) : Int), zs.getD (n - 1 - k) default) (by unfold bwH; exact List.mem_append_right _ (List.mem_singleton.2 rfl))
    rw [h1, show n - k = (n - 1 - k) + 1 by omega, meetAt, colN_get THop.nd zs n (n - 1 - k) (by omega), h2, show n - (k + 1) = n - 1 - k by omega]
theorem bh_hit (zs : List THop) (zb : List Int) (nb n j : Nat) (pre : List (Int × THop)) (p : Int × THop) (h : (pre ++ [p]) <+: bwH zs n n) (ha : ∀ q ∈ pre, lastIdx zb q.2.nd nb = none) (hp : lastIdx zb p.2.nd nb = some j) : ∃ i : Nat, i < n ∧ p.1 = (i : Int) ∧ meetAt (colN THop.nd zs n) zb nb n = some (i, j) := by
  have hl := h.length_le
  rw [bwH_len, List.length_append, List.length_singleton] at hl
  have h1 := bwH_pre zs n (pre.length + 1) n hl
  have h2 : pre ++ [p] = bwH zs n (pre.length + 1) := by
    rw [List.prefix_iff_eq_take.1 h, List.prefix_iff_eq_take.1 h1, bwH_len, List.length_append]
    rfl
  unfold bwH at h2
  obtain ⟨e1, e2⟩ := List.append_inj h2 (bwH_len _ _ _).symm
  have e3 := List.cons.inj e2
  refine ⟨n - 1 - pre.length, by omega, by rw [e3.1], ?_⟩
  rw [bh_all zs zb nb n pre.length (by omega) (by rw [← e1]; exact ha), show n - pre.length = (n - 1 - pre.length) + 1 by omega, meetAt, colN_get THop.nd zs n (n - 1 - pre.length) (by omega)]
  rw [e3.1] at hp
  rw [hp]
theorem bh_none (zs : List THop) (zb : List Int) (nb n : Nat) (h : ∀ p ∈ bwH zs n n, lastIdx zb p.2.nd nb = none) : meetAt (colN THop.nd zs n) zb nb n = none := by
  rw [bh_all zs zb nb n n (Nat.le_refl _) h, Nat.sub_self]
  rfl

set_option maxRecDepth 100000 in
set_option maxHeartbeats 2000000 in
theorem backH_in (a : Option Addr) (n c : Nat) (w : World) :
    CallsIn Fence.wide 5 Try.prog 54 #[.slice a n c] w fun e w' => e = .returned (.func (.func 79) #[] #[.pointer (some ⟨w.heap.size, 0, none⟩)]) ∧ w' = w.alloc (.cells #[.slice a n c] 26) := by
  refine callsIn_of_wp Try.func54 rfl trivial ?_ rfl
  simp only [Try.ntmps54, List.size_toArray, List.length_cons, List.length_nil, Nat.reduceAdd, Nat.reduceSub, Array.replicate_succ, Array.replicate_zero, List.push_toArray, List.append_toArray, List.nil_append, List.cons_append]
  gi_wp2
  go_ret
  exact ⟨rfl, rfl⟩

set_option maxRecDepth 100000 in
set_option maxHeartbeats 4000000 in
theorem backH1_in (l Bn n₀ : Nat) (a : Option Addr) (n c : Nat) (zs : List THop) (J Jx : List (Int × THop) → World → Prop) (hn : n ≤ 1073741824)
    (hY : ∀ pre x W, J pre W → pre.length < n → YieldAt Fence.wide 4 Try.prog l #[.int .i64 x.1, .agg #[.int .i64 x.2.nd, .int .i64 x.2.ing, .int .i64 x.2.eg, .int .i64 x.2.exp, .int .i64 x.2.mac]] W fun e W' =>
      (e = .returned (.bool true) ∧ J (pre ++ [x]) W' ∧ KpC Bn n₀ W W') ∨ (e = .returned (.bool false) ∧ Jx (pre ++ [x]) W'))
    (W : World) (hBn : W.cell? ⟨Bn, 0, none⟩ = some (.slice a n c)) (hH : HasHop W n₀ a n zs) (h0 : J [] W) :
    CallsIn Fence.wide 5 Try.prog 79 #[.func (.yield l) #[] #[], .pointer (some ⟨Bn, 0, none⟩)] W fun e W' => (∃ v, e = .returned v) ∧
      ((∃ ys, ys = bwH zs n n ∧ J ys W') ∨ (∃ pre, pre <+: bwH zs n n ∧ Jx pre W')) := by
  refine callsIn_of_wp Try.func79 rfl trivial ?_ rfl
  simp only [Try.ntmps79, List.size_toArray, List.length_cons, List.length_nil, Nat.reduceAdd, Nat.reduceSub, Array.replicate_succ, Array.replicate_zero, List.push_toArray, List.append_toArray, List.nil_append, List.cons_append]
  gi_wp2
  gi_loopw [3] (fun i wr => ∃ k : Nat, k ≤ n ∧ i = .int .i64 ((n : Int) - 1 - k) ∧ wr.cell? ⟨Bn, 0, none⟩ = some (.slice a n c) ∧ HasHop wr n₀ a n zs ∧ J (bwH zs n k) wr) (fun i _ => (intOf i + 1).toNat)
  case atStart => exact ⟨0, by omega, by simp, hBn, hH, h0⟩
  case round =>
    obtain ⟨k, hk, rfl, hB, hH, hJ⟩ := hrel
    by_cases hlt : k < n
    · obtain ⟨b, off, z, rfl, hb, hz, d0, d1, d2, d3, d4⟩ := HasHop.at _ _ _ _ _ _ hH (show n - 1 - k < n by omega)
      have hi : (n : Int) - 1 - k = ((n - 1 - k : Nat) : Int) := by omega
      have he : bwH zs n (k + 1) = bwH zs n k ++ [(((n - 1 - k : Nat) : Int), z)] := by rw [hz.out]; rfl
      have hl := bwH_len zs n k
      obtain ⟨fn, tmps, assign, body, hy, hR⟩ := hY (bwH zs n k) ((((n - 1 - k : Nat) : Int)), z) wr hJ (by omega)
      have HE := Lib.hid he
      clear he hl
      obtain ⟨j, hj⟩ : ∃ j, j = n - 1 - k := ⟨_, rfl⟩
      have hjn : j < n := by omega
      rw [← hj] at d0 d1 d2 d3 d4 hi hy hR
      rw [hi]
      dsimp only at hy
      have HJ := Lib.hid hj
      clear hj
      have i1 : (0 : Int) ≤ (j : Int) := by omega
      have i2 : (j : Int) < (n : Int) := by omega
      gi_wp2
      refine hR.mono ?_
      rintro e W3 (⟨rfl, hJ3, hk3⟩ | ⟨rfl, hJx3⟩)
      · have hB3 := hk3.cell.trans hB
        have hH3 := hH.lower hk3.1
        gi_wp2
        go_roundw
        case rel => exact ⟨k + 1, by omega, congrArg (Value.int .i64) (by have := HJ.out; omega), hB3, hH3, by rw [HE.out, ← HJ.out]; exact hJ3⟩
        case measure => simp [intOf]
      · gi_wp2
        refine bodyPost_ret (results_none rfl _ _ _) rfl ?_
        exact ⟨⟨_, rfl⟩, .inr ⟨bwH zs n k ++ [((j : Int), z)], by rw [HJ.out, ← HE.out]; exact bwH_pre zs n (k + 1) n (by omega), hJx3⟩⟩
    · obtain rfl : k = n := by omega
      have hi : (k : Int) - 1 - k = -1 := by omega
      rw [hi]
      gi_wp2
      go_end0
      exact ⟨⟨_, rfl⟩, .inl ⟨bwH zs k k, rfl, hJ⟩⟩

theorem backH_stops (Bn n₀ : Nat) (a : Option Addr) (n c : Nat) (zs : List THop) (w : World) (hn : n ≤ 1073741824) (hBn : Bn < w.heap.size) (hn₀ : n₀ ≤ w.heap.size) (hc : w.cell? ⟨Bn, 0, none⟩ = some (.slice a n c)) (hH : HasHop w n₀ a n zs) :
    SeqStopsK Fence.wide 5 Try.prog 79 #[.pointer (some ⟨Bn, 0, none⟩)] (fun x : Int × THop => #[Value.int .i64 x.1, Value.agg #[.int .i64 x.2.nd, .int .i64 x.2.ing, .int .i64 x.2.eg, .int .i64 x.2.exp, .int .i64 x.2.mac]]) (KpC Bn n₀) (fun ys => ys = bwH zs n n) (fun pre => pre <+: bwH zs n n) n w := fun l J Jx W hW _ _ hY h0 =>
  backH1_in l Bn n₀ a n c zs J Jx hn hY W ((hW.cell (p := ⟨Bn, 0, none⟩) hBn).trans hc) (hH.lower (hW.mono hn₀)) h0

end Go.Proofs.Ytbkbkpnpllemfaa
namespace Go.Proofs.Ytbkbkpnpllemfaa
open Go Go.Proofs Go.RowKit Go.Shelf Go.ChangeShapes Go.WideShapes Go.ChangeAt
set_option linter.unusedVariables false
attribute [local go_sem] Oper.semAt_some
/-- The parts of the path that meets, as the program sifts them. -/
def judI (x0 y0 : Int) (z0 : List THop) (n0 : Nat) (x1 y1 : Int) (z1 : List THop) (n1 : Nat) (i : Int) (j : Nat) : List TPathPart :=
  addIf (decide (0 < (mpRow z1 n1 4 j).length)) (addIf (decide (0 < (mpRow z0 n0 1 i).length)) [] (mpEl x0 y0 z0 n0 1 i)) (mpEl x1 y1 z1 n1 4 j)
theorem lastIdx_lt (zs : List Int) (v : Int) : ∀ (n k : Nat), lastIdx zs v n = some k → k < n
  | 0, _, h => by cases h
  | n + 1, k, h => by
    unfold lastIdx at h
    split at h
    · cases h; exact Nat.lt_succ_self _
    · exact Nat.lt_succ_of_lt (lastIdx_lt zs v n k h)
theorem mpRow_pos (zs : List THop) (n f : Nat) (kd : Int) (h : zs.length = n) (hk : inB kd 1 4 = true) (hf : f < n) : 0 < (mpRow zs n kd (f : Int)).length := by
  have : mpB n kd (f : Int) = true := by unfold mpB; rw [hk]; simp [inB]; omega
  unfold mpRow
  rw [if_pos this]
  split
  · unfold turnP; rw [List.length_take, turnL_len]; simp; omega
  · simp [h]; omega
theorem judR_I (x0 y0 : Int) (z0 : List THop) (n0 : Nat) (x1 y1 : Int) (z1 : List THop) (n1 i j : Nat) (h0 : z0.length = n0) (h1 : z1.length = n1) (hi : i < n0) (hj : j < n1) (hm : meetAt (colN THop.nd z0 n0) (colN THop.nd z1 n1) n1 n0 = some (i, j)) : judR x0 y0 z0 n0 x1 y1 z1 n1 = judI x0 y0 z0 n0 x1 y1 z1 n1 (i : Int) j := by
  have p0 := mpRow_pos z0 n0 i 1 h0 (by decide) hi
  have p1 := mpRow_pos z1 n1 j 4 h1 (by decide) hj
  unfold judR judI
  rw [hm, decide_eq_true p0, decide_eq_true p1]
  rfl
section
variable {A B : World} {row : Option Nat}
theorem ownR_kept {α : Type} [Inhabited α] {nc lo hi n : Nat} {cell : α → Nat → Value} {a : Option Addr} {zs : List α} (h : OwnR nc cell A lo hi a n zs) (hg : A.grownBy B row) (hr : ∀ r, row = some r → ∃ o : Obj, A.heap[r]? = some o ∧ o.isCells = false) : OwnR nc cell B lo hi a n zs :=
  ⟨h.1, fun hn => by
    obtain ⟨b, off, e, h1, h2, h3⟩ := h.2 hn
    exact ⟨b, off, e, h1, h2, fun j hj => ⟨Go.cell_kept (h3 j hj).1 hg hr, (Go.frozen_kept (h3 j hj).1 hg hr).trans (h3 j hj).2⟩⟩⟩
theorem ownN_kept {lo hi n : Nat} {a : Option Addr} {zs : List TPathPart} (h : OwnN WPathPart A lo hi a n zs) (hg : A.grownBy B row) (hr : ∀ r, row = some r → ∃ o : Obj, A.heap[r]? = some o ∧ o.isCells = false) : OwnN WPathPart B lo hi a n zs := by
  obtain ⟨hl, gs, b, ho, hb, l, h, hap, hk⟩ := h
  refine ⟨hl, gs, b, ownR_kept ho hg hr, hb, l, h, hap, fun i hi => ?_⟩
  obtain ⟨d1, d2, d3, d4, e0, e1, e2, o, p⟩ := hk i hi
  exact ⟨d1, d2, d3, d4, e0, e1, e2, ownR_kept o hg hr, p⟩
end
set_option maxRecDepth 100000 in
set_option maxHeartbeats 16000000 in
theorem jud_in (x0 y0 : Int) (a0 : Option Addr) (n0 c0 B0 : Nat) (z0 : List THop) (x1 y1 : Int) (a1 : Option Addr) (n1 c1 B1 : Nat) (z1 : List THop) (w : World) (h0 : HasHop w B0 a0 n0 z0) (hB0 : B0 ≤ w.heap.size) (hn0 : n0 ≤ 1048576) (hc0 : a0 = none → c0 = 0) (hk0 : n0 ≤ c0) (h1 : HasHop w B1 a1 n1 z1) (hB1 : B1 ≤ w.heap.size) (hn1 : n1 ≤ 1048576) (hc1 : a1 = none → c1 = 0) (hk1 : n1 ≤ c1) :
    CallsIn Fence.wide 6 Try.prog 22 #[.agg #[.int .i64 x0, .int .i64 y0, .slice a0 n0 c0], .agg #[.int .i64 x1, .int .i64 y1, .slice a1 n1 c1]] w (OutNPath (judR x0 y0 z0 n0 x1 y1 z1 n1) w) := by
  have M0 : Mk0 w (((w.alloc (Obj.cells #[Value.int .i64 x0, Value.int .i64 y0, Value.slice a0 n0 c0] 28)).alloc (Obj.cells #[Value.int .i64 x1, Value.int .i64 y1, Value.slice a1 n1 c1] 28)).alloc (Obj.cells #[Value.slice none 0 0] 42)) := ((Mk.alloc w (Obj.cells #[Value.int .i64 x0, Value.int .i64 y0, Value.slice a0 n0 c0] 28)).new (Obj.cells #[Value.int .i64 x1, Value.int .i64 y1, Value.slice a1 n1 c1] 28)).new (Obj.cells #[Value.slice none 0 0] 42)
  refine callsIn_of_wp_marks Try.func22 rfl trivial ?_ rfl
  simp only [Try.ntmps22, List.size_toArray, List.length_cons, List.length_nil, Nat.reduceAdd, Nat.reduceSub, Array.replicate_succ, Array.replicate_zero, List.push_toArray, List.append_toArray, List.nil_append, List.cons_append]
  have u0 := cellNew w (.int .i64 x0) 3
  gi_wp2_with fail
  have M0 : Mk0 w (((w.alloc (Obj.cells #[Value.int .i64 x0, Value.int .i64 y0, Value.slice a0 n0 c0] 28)).alloc (Obj.cells #[Value.int .i64 x1, Value.int .i64 y1, Value.slice a1 n1 c1] 28)).alloc (Obj.cells #[Value.slice none 0 0] 42)) := M0
  refine ⟨trivial, ?_⟩
  have k0 : (((w.alloc (Obj.cells #[Value.int .i64 x0, Value.int .i64 y0, Value.slice a0 n0 c0] 28)).alloc (Obj.cells #[Value.int .i64 x1, Value.int .i64 y1, Value.slice a1 n1 c1] 28)).alloc (Obj.cells #[Value.slice none 0 0] 42)).cell? ⟨w.heap.size, 0, none⟩ = some (.int .i64 x0) := by simp [go_sem]
  have k1 : (((w.alloc (Obj.cells #[Value.int .i64 x0, Value.int .i64 y0, Value.slice a0 n0 c0] 28)).alloc (Obj.cells #[Value.int .i64 x1, Value.int .i64 y1, Value.slice a1 n1 c1] 28)).alloc (Obj.cells #[Value.slice none 0 0] 42)).cell? ⟨w.heap.size, 1, none⟩ = some (.int .i64 y0) := by simp [go_sem]
  have k2 : (((w.alloc (Obj.cells #[Value.int .i64 x0, Value.int .i64 y0, Value.slice a0 n0 c0] 28)).alloc (Obj.cells #[Value.int .i64 x1, Value.int .i64 y1, Value.slice a1 n1 c1] 28)).alloc (Obj.cells #[Value.slice none 0 0] 42)).cell? ⟨w.heap.size, 2, none⟩ = some (.slice a0 n0 c0) := by simp [go_sem]
  have l0 : (((w.alloc (Obj.cells #[Value.int .i64 x0, Value.int .i64 y0, Value.slice a0 n0 c0] 28)).alloc (Obj.cells #[Value.int .i64 x1, Value.int .i64 y1, Value.slice a1 n1 c1] 28)).alloc (Obj.cells #[Value.slice none 0 0] 42)).cell? ⟨w.heap.size + 1, 0, none⟩ = some (.int .i64 x1) := by simp [go_sem]
  have l1 : (((w.alloc (Obj.cells #[Value.int .i64 x0, Value.int .i64 y0, Value.slice a0 n0 c0] 28)).alloc (Obj.cells #[Value.int .i64 x1, Value.int .i64 y1, Value.slice a1 n1 c1] 28)).alloc (Obj.cells #[Value.slice none 0 0] 42)).cell? ⟨w.heap.size + 1, 1, none⟩ = some (.int .i64 y1) := by simp [go_sem]
  have l2 : (((w.alloc (Obj.cells #[Value.int .i64 x0, Value.int .i64 y0, Value.slice a0 n0 c0] 28)).alloc (Obj.cells #[Value.int .i64 x1, Value.int .i64 y1, Value.slice a1 n1 c1] 28)).alloc (Obj.cells #[Value.slice none 0 0] 42)).cell? ⟨w.heap.size + 1, 2, none⟩ = some (.slice a1 n1 c1) := by simp [go_sem]
  have r0 : (((w.alloc (Obj.cells #[Value.int .i64 x0, Value.int .i64 y0, Value.slice a0 n0 c0] 28)).alloc (Obj.cells #[Value.int .i64 x1, Value.int .i64 y1, Value.slice a1 n1 c1] 28)).alloc (Obj.cells #[Value.slice none 0 0] 42)).cell? ⟨w.heap.size + 1 + 1, 0, none⟩ = some (.slice none 0 0) := by simp [go_sem]
  have fR : (((w.alloc (Obj.cells #[Value.int .i64 x0, Value.int .i64 y0, Value.slice a0 n0 c0] 28)).alloc (Obj.cells #[Value.int .i64 x1, Value.int .i64 y1, Value.slice a1 n1 c1] 28)).alloc (Obj.cells #[Value.slice none 0 0] 42)).frozen? ⟨w.heap.size + 1 + 1, 0, none⟩ = false := by simp [go_sem]
  have hs1 : w.heap.size + 1 + 1 < (((w.alloc (Obj.cells #[Value.int .i64 x0, Value.int .i64 y0, Value.slice a0 n0 c0] 28)).alloc (Obj.cells #[Value.int .i64 x1, Value.int .i64 y1, Value.slice a1 n1 c1] 28)).alloc (Obj.cells #[Value.slice none 0 0] 42)).heap.size := by simp only [World.size_alloc]; omega
  refine (callsIn_wide.2 (implSegASes x1 y1 a1 n1 c1 B1 z1 _ (h1.mk M0 hB1 (.inr (Nat.le_refl _))) (Nat.le_trans hB1 M0.size) hn1)).mono ?_
  rintro e w1 ⟨A1, N1, C1, rfl, hz1, ho1, hb1⟩
  have m1 := Mk.of_below hb1
  obtain rfl : n1 = N1 := (colN_len THop.nd z1 n1).symm.trans ho1.1
  have hr1 := ho1.has
  have zs1 := m1.size
  replace k0 := m1.cellAt k0
  replace k1 := m1.cellAt k1
  replace k2 := m1.cellAt k2
  replace l0 := m1.cellAt l0
  replace l1 := m1.cellAt l1
  replace l2 := m1.cellAt l2
  replace r0 := m1.cellAt r0
  replace fR := (m1.frozen (b := w.heap.size + 1 + 1) (o := 0) (by omega) (.inr (Nat.zero_le _))).trans fR
  have M1 := M0.trans m1
  clear hb1 ho1 hz1 m1 M0
  generalize (((w.alloc (Obj.cells #[Value.int .i64 x0, Value.int .i64 y0, Value.slice a0 n0 c0] 28)).alloc (Obj.cells #[Value.int .i64 x1, Value.int .i64 y1, Value.slice a1 n1 c1] 28)).alloc (Obj.cells #[Value.slice none 0 0] 42)) = wb at *
  have q0 : w.heap.size < w1.heap.size := by omega
  have hRP : w.heap.size + 1 + 1 < w1.heap.size := Nat.lt_of_lt_of_le hs1 zs1
  gi_wp2_with fail
  refine ⟨trivial, ?_⟩
  refine (backH_in _ _ _ _).mono ?_
  rintro e w' ⟨rfl, rfl⟩
  gi_wp2_with fail
  have M2 := (Mk.alloc w1 (.cells #[.slice A1 n1 C1] 49)).trans (Mk.alloc _ (.cells #[.slice a0 n0 c0] 26))
  have bP := (cellKeep (.cells #[.slice a0 n0 c0] 26) (cellNew w1 (.slice A1 n1 C1) 49).1)
  have bB := (cellNew (w1.alloc (.cells #[.slice A1 n1 C1] 49)) (.slice a0 n0 c0) 26).1
  have zE : ((w1.alloc (.cells #[.slice A1 n1 C1] 49)).alloc (.cells #[.slice a0 n0 c0] 26)).heap.size = w1.heap.size + 1 + 1 := by simp only [World.size_alloc]
  rw [World.size_alloc] at bB
  replace k0 := M2.cellAt k0
  replace k1 := M2.cellAt k1
  replace k2 := M2.cellAt k2
  replace l0 := M2.cellAt l0
  replace l1 := M2.cellAt l1
  replace l2 := M2.cellAt l2
  replace r0 := M2.cellAt r0
  replace fR := (M2.frozen (b := w.heap.size + 1 + 1) (o := 0) (by omega) (.inr (Nat.zero_le _))).trans fR
  replace hr1 := hr1.below M2.below0
  have ME := M1.trans M2
  clear M2 M1 u0
  obtain ⟨P, hP⟩ : ∃ P, P = w1.heap.size := ⟨_, rfl⟩
  generalize ((w1.alloc (.cells #[.slice A1 n1 C1] 49)).alloc (.cells #[.slice a0 n0 c0] 26)) = wS at *
  replace hRP : w.heap.size + 1 + 1 < P := Nat.lt_of_lt_of_eq hRP hP.symm
  replace zE : wS.heap.size = P + 1 + 1 := zE.trans (congrArg (· + 1 + 1) hP.symm)
  rw [← hP] at *
  clear hP
  clear zs1 hs1
  refine wpIn_rangeFunc_ownH rfl (by decide) (gf := 79) (lb := #[.pointer (some ⟨P + 1, 0, none⟩)]) rfl trivial (enters_of Try.func79 (by kernel_rfl) rfl)
    (backH_stops (P + 1) wS.heap.size a0 n0 c0 z0 wS (by omega) (by omega) (Nat.le_refl _) bB ((h0.mk ME hB0 (.inr (Nat.le_refl _))).mono (Nat.le_trans hB0 ME.size))) KpC.t (KpC.b (Nat.le_refl _) (by omega)) (Below.refl _ _) (fun _ => rfl)
    (fun (pre : List (Int × THop)) W => (∀ p ∈ pre, lastIdx (colN THop.nd z1 n1) p.2.nd n1 = none) ∧ Below wS.heap.size wS W)
    (fun k (pre : List (Int × THop)) W => (k = .ret ∧ ∃ q p j A N C lo hi, pre = q ++ [p] ∧ (∀ x ∈ q, lastIdx (colN THop.nd z1 n1) x.2.nd n1 = none) ∧ lastIdx (colN THop.nd z1 n1) p.2.nd n1 = some j ∧ W.cell? ⟨w.heap.size + 1 + 1, 0, none⟩ = some (.slice A N C) ∧ ((A = none → C = 0) ∧ (N ≤ C ∧ C ≤ 9223372036854775807)) ∧ w.heap.size ≤ lo ∧ hi ≤ W.heap.size ∧ OwnN WPathPart W lo hi A N (judI x0 y0 z0 n0 x1 y1 z1 n1 p.1 j)) ∧ Below w.heap.size w W)
    (OwnFrom.and (Own.from (fun s A B row hs hg hr => hs) _) (ownFrom_below (Nat.le_refl _) (Nat.le_refl _)))
    (fun k => OwnFrom.and (Own.from (fun s A B row hs hg hr => (by obtain ⟨e, q, p, j, A, N, C, lo, hi, e1, e2, e3, e4, e5, e6, e8, e7⟩ := hs; exact ⟨e, q, p, j, A, N, C, lo, hi, e1, e2, e3, Go.cell_kept e4 hg hr, e5, e6, Nat.le_trans e8 hg.size, ownN_kept e7 hg hr⟩)) _) (ownFrom_below (Nat.le_refl _) ME.size))
    ⟨fun p hp => (by cases hp), Below.refl _ _⟩
    (fun x a' W => ∃ hb, wS.heap.size ≤ hb ∧ a' = { tmps := #[.agg #[.int .i64 x0, .int .i64 y0, .slice a0 n0 c0], .agg #[.int .i64 x1, .int .i64 y1, .slice a1 n1 c1], .pointer (some ⟨w.heap.size, 0, none⟩), .pointer (some ⟨w.heap.size + 1, 0, none⟩), .pointer (some ⟨w.heap.size + 1 + 1, 0, none⟩), .pointer (some ⟨P, 0, none⟩), .int .i64 x.1, .pointer (some ⟨hb, 0, none⟩), undef, .agg #[.int .i64 x1, .int .i64 y1, .slice a1 n1 c1], .slice A1 n1 C1, .pointer (some ⟨w.heap.size, 2, none⟩), .slice a0 n0 c0, .func (.func 79) #[] #[.pointer (some ⟨P + 1, 0, none⟩)], .int .i64 x.1, .agg #[.int .i64 x.2.nd, .int .i64 x.2.ing, .int .i64 x.2.eg, .int .i64 x.2.exp, .int .i64 x.2.mac], undef, undef, undef, undef, undef, undef, undef, undef, undef, undef, undef, undef, undef, undef, undef], defers := [] } ∧ W.cell? ⟨hb, 0, none⟩ = some (.int .i64 x.2.nd))
    (fun x a' => Own.from (fun s A B row hs hg hr => (by obtain ⟨hb, e1, e2, e3⟩ := hs; exact ⟨hb, e1, e2, Go.cell_kept e3 hg hr⟩)) _) ?assign ?body ?done ?stop
  case assign =>
    intro l pre x W K hI hK
    gi_wp2
    have hz := hI.2.size
    refine hK _ _ (KeepsFrom.of_grownBy (World.grownBy_alloc W _ none) (fun _ e => by cases e)) ⟨(Below.refl _ _).alloc hz _, Below.heap_alloc _ _ _ (by omega)⟩ ⟨hI.1, hI.2.trans ((Below.refl _ _).alloc hz _)⟩ ⟨W.heap.size, hz, rfl, ?_⟩
    simp [go_sem]
  case body =>
    rintro l pre p a' W hl hrr ⟨ha, hB⟩ ⟨hb, hhb, rfl, hc⟩ hlt
    have mB := Mk.of_below hB
    replace bP := mB.cellAt bP
    have hr1W := hr1.below (hB.mono (by omega))
    have hzW := hB.size
    gi_wp2_with fail
    refine ⟨trivial, ?_⟩
    refine (CallsIn.inRound l (callsIn_wide.2 (implLastI A1 n1 C1 P p.2.nd (colN THop.nd z1 n1) W hr1W (by omega) (by omega)))).mono ?_
    rintro e W2 ⟨rfl, hB2⟩
    have hK2 : KeepsFrom wS.heap.size W W2 := ⟨hB2.size, fun k o _ hk _ => (hB2.block k (Array.getElem?_eq_some_iff.1 hk).1).trans hk⟩
    have hBE := hB.trans (hB2.mono hzW)
    cases hli : lastIdx (colN THop.nd z1 n1) p.2.nd n1 with
    | none =>
      have e9 : liV (none : Option Nat) = -1 := rfl
      rw [e9]
      gi_wp2
      refine ⟨hK2, ⟨hB2.mono hzW, hB2.block _ (by omega)⟩, ?_, hBE⟩
      intro q hq
      rcases List.mem_append.1 hq with hq | hq
      · exact ha q hq
      · rw [List.mem_singleton.1 hq]
        exact hli
    | some j =>
      have e9 : liV (some j) = (j : Int) := rfl
      rw [e9]
      have j0 : (0 : Int) ≤ (j : Int) := by omega
      have mE := Mk.of_below hBE
      have zW2 := hB2.size
      replace k0 := mE.cellAt k0
      replace k1 := mE.cellAt k1
      replace k2 := mE.cellAt k2
      replace l0 := mE.cellAt l0
      replace l1 := mE.cellAt l1
      replace l2 := mE.cellAt l2
      replace r0 := mE.cellAt r0
      replace fR := (mE.frozen (b := w.heap.size + 1 + 1) (o := 0) (by omega) (.inr (Nat.zero_le _))).trans fR
      have MW := ME.trans mE
      gi_wp2_with fail
      refine wpIn_region_fh (fun (g : Bxs) w' => (Mk0 W2 w' ∧ w'.cell? ⟨w.heap.size, 0, none⟩ = some (.int .i64 x0) ∧ w'.cell? ⟨w.heap.size, 1, none⟩ = some (.int .i64 y0) ∧ w'.cell? ⟨w.heap.size, 2, none⟩ = some (.slice a0 n0 c0) ∧ w'.cell? ⟨w.heap.size + 1, 0, none⟩ = some (.int .i64 x1) ∧ w'.cell? ⟨w.heap.size + 1, 1, none⟩ = some (.int .i64 y1) ∧ w'.cell? ⟨w.heap.size + 1, 2, none⟩ = some (.slice a1 n1 c1) ∧ w'.cell? ⟨w.heap.size + 1 + 1, 0, none⟩ = some (.slice none 0 0)) ∧ BxS W2.heap.size g w') (fhF [fun g x wv => (x 0) = .agg #[.int .i64 x0, .int .i64 y0, .slice a0 n0 c0], fun g x wv => (x 1) = .int .i64 p.1, fun g x wv => ∃ (g2 : HPathPart) (lo2 hi2 : Nat), (x 2) = .agg #[.int .i64 g2.kind, .int .i64 g2.ts, .int .i64 g2.beta, .slice g2.a g2.n g2.c] ∧ WPathPart.kid wv lo2 hi2 g2 (mpEl x0 y0 z0 n0 1 p.1) ∧ W2.heap.size ≤ lo2 ∧ lo2 ≤ hi2 ∧ hi2 ≤ wv.heap.size, fun g x wv => (x 3) = .agg #[.int .i64 x1, .int .i64 y1, .slice a1 n1 c1], fun g x wv => (x 4) = .int .i64 (j : Int), fun g x wv => ∃ (g2 g5 : HPathPart) (lo2 hi2 lo5 hi5 : Nat), (x 2) = .agg #[.int .i64 g2.kind, .int .i64 g2.ts, .int .i64 g2.beta, .slice g2.a g2.n g2.c] ∧ WPathPart.kid wv lo2 hi2 g2 (mpEl x0 y0 z0 n0 1 p.1) ∧ W2.heap.size ≤ lo2 ∧ lo2 ≤ hi2 ∧ (x 5) = .agg #[.int .i64 g5.kind, .int .i64 g5.ts, .int .i64 g5.beta, .slice g5.a g5.n g5.c] ∧ WPathPart.kid wv lo5 hi5 g5 (mpEl x1 y1 z1 n1 4 (j : Int)) ∧ hi2 ≤ lo5 ∧ lo5 ≤ hi5 ∧ hi5 ≤ wv.heap.size, fun g x wv => ∃ (g2 g5 : HPathPart) (lo2 hi2 lo5 hi5 : Nat) (NB : Nat), (x 6) = .slice (some ⟨NB, 0, none⟩) 2 2 ∧ HasR 4 HPathPart.cell wv wv.heap.size (some ⟨NB, 0, none⟩) 2 [g2, g5] ∧ WPathPart.kid wv lo2 hi2 g2 (mpEl x0 y0 z0 n0 1 p.1) ∧ W2.heap.size ≤ lo2 ∧ lo2 ≤ hi2 ∧ WPathPart.kid wv lo5 hi5 g5 (mpEl x1 y1 z1 n1 4 (j : Int)) ∧ hi2 ≤ lo5 ∧ lo5 ≤ hi5 ∧ hi5 ≤ wv.heap.size, fun g x wv => ∃ (g2 g5 : HPathPart) (lo2 hi2 lo5 hi5 : Nat) (A : Option Addr) (N C lo hi : Nat), (x 7) = .agg #[.slice A N C] ∧ ((A = none → C = 0) ∧ (N ≤ C ∧ C ≤ 9223372036854775807)) ∧ OwnR 4 HPathPart.cell wv lo hi A N ([g2, g5].filter headP) ∧ hi5 ≤ lo ∧ lo ≤ hi ∧ hi ≤ wv.heap.size ∧ WPathPart.kid wv lo2 hi2 g2 (mpEl x0 y0 z0 n0 1 p.1) ∧ W2.heap.size ≤ lo2 ∧ lo2 ≤ hi2 ∧ WPathPart.kid wv lo5 hi5 g5 (mpEl x1 y1 z1 n1 4 (j : Int)) ∧ hi2 ≤ lo5 ∧ lo5 ≤ hi5 ∧ hi5 ≤ wv.heap.size]) BxX (fun _ _ => False) (spL [[0], [1], [2], [3], [4], [2, 5], [6], [7]]) 9 8 (fun ⟨_, _, h⟩ => h) (by kernel_rfl) (by kernel_rfl) (by kernel_rfl) (by kernel_rfl) (by decide) (by decide) (by kernel_rfl) (fun h => absurd h (by decide)) (fhM_mono ⟨fun g g' v w w' h x => h, fun g g' v w w' h x => h, fun g g' v w w' h x => (by obtain ⟨g2, lo2, hi2, e2, q2, p2, d2, z⟩ := h; have xs := x.far.size; exact ⟨g2, lo2, hi2, e2, WPathPart.kid_mk q2 x.far (by omega) (.inr (.inr (Nat.le_refl _))), p2, d2, Nat.le_trans z xs⟩), fun g g' v w w' h x => h, fun g g' v w w' h x => h, fun g g' v w w' h x => (by obtain ⟨g2, g5, lo2, hi2, lo5, hi5, e2, q2, p2, d2, e5, q5, p5, d5, z⟩ := h; have xs := x.far.size; exact ⟨g2, g5, lo2, hi2, lo5, hi5, e2, WPathPart.kid_mk q2 x.far (by omega) (.inr (.inr (Nat.le_refl _))), p2, d2, e5, WPathPart.kid_mk q5 x.far (by omega) (.inr (.inr (Nat.le_refl _))), p5, d5, Nat.le_trans z xs⟩), fun g g' v w w' h x => (by obtain ⟨g2, g5, lo2, hi2, lo5, hi5, NB, e, hr, q2, p2, d2, q5, p5, d5, z⟩ := h; have xs := x.far.size; exact ⟨g2, g5, lo2, hi2, lo5, hi5, NB, e, (hr.mk x.far (Nat.le_refl _) (.inr (Nat.le_refl _))).mono xs, WPathPart.kid_mk q2 x.far (by omega) (.inr (.inr (Nat.le_refl _))), p2, d2, WPathPart.kid_mk q5 x.far (by omega) (.inr (.inr (Nat.le_refl _))), p5, d5, Nat.le_trans z xs⟩), fun g g' v w w' h x => (by obtain ⟨g2, g5, lo2, hi2, lo5, hi5, A, N, C, lo, hi, e, hc, ow, t1, t2, t3, q2, p2, d2, q5, p5, d5, z⟩ := h; have xs := x.far.size; exact ⟨g2, g5, lo2, hi2, lo5, hi5, A, N, C, lo, hi, e, hc, ow.mk x.far t3 (.inr (.inr (Nat.le_refl _))), t1, t2, Nat.le_trans t3 xs, WPathPart.kid_mk q2 x.far (by omega) (.inr (.inr (Nat.le_refl _))), p2, d2, WPathPart.kid_mk q5 x.far (by omega) (.inr (.inr (Nat.le_refl _))), p5, d5, Nat.le_trans z xs⟩), trivial⟩) ⟨⟨Mk.drew1 _, k0, k1, k2, l0, l1, l2, r0⟩, BxS.none_ _ _⟩ ?_
      change WkH _ _ _ _ _ _ _ 9 8 8 0 _
      refine WkH.value (m := 7) (k := 0) (by decide) rfl rfl (of_decide_eq_true (by rfl)) rfl (fun g wv hS hF => ?_) (fun v0 => ?_)
      · obtain ⟨⟨s0, s1, s2, s3, s4, s5, s6, s7⟩, hB2⟩ := hS
        exact ⟨.agg #[.int .i64 x0, .int .i64 y0, .slice a0 n0 c0], wv, g, (by go_simp; try with_reducible rfl), ⟨⟨s0, s1, s2, s3, s4, s5, s6, s7⟩, hB2⟩, BxX.same (Mk.refl _ _ _), rfl⟩
      try simp only [Act.put, List.getElem_toArray, List.getElem_cons_zero, List.setIfInBounds_toArray, List.set_cons_zero, List.set_cons_succ]
      refine WkH.value (m := 6) (k := 1) (by decide) rfl rfl (of_decide_eq_true (by rfl)) rfl (fun g wv hS hF => ?_) (fun v1 => ?_)
      · obtain ⟨⟨s0, s1, s2, s3, s4, s5, s6, s7⟩, hB2⟩ := hS
        exact ⟨.int .i64 p.1, wv, g, (by go_simp; try with_reducible rfl), ⟨⟨s0, s1, s2, s3, s4, s5, s6, s7⟩, hB2⟩, BxX.same (Mk.refl _ _ _), rfl⟩
      try simp only [Act.put, List.getElem_toArray, List.getElem_cons_succ, List.getElem_cons_zero, List.setIfInBounds_toArray, List.set_cons_zero, List.set_cons_succ]
      refine WkH.call (m := 5) (k := 2) (by decide) rfl rfl (of_decide_eq_true (by rfl)) rfl (fun g wv hS hF => ?_) (fun v2 => ?_)
      · obtain ⟨⟨s0, s1, s2, s3, s4, s5, s6, s7⟩, hB2⟩ := hS
        have f0 : v0 = .agg #[.int .i64 x0, .int .i64 y0, .slice a0 n0 c0] := hF 0 (by rfl)
        obtain rfl := f0
        have f1 : v1 = .int .i64 p.1 := hF 1 (by rfl)
        obtain rfl := f1
        refine ⟨_, _, (by go_simp; first | done | exact ⟨rfl, rfl⟩ | with_reducible rfl), ?_⟩
        refine ((implMkP x0 y0 a0 n0 c0 B0 z0 1 p.1 wv (h0.mk (MW.trans s0) hB0 (.inr (Nat.le_refl _))) (Nat.le_trans hB0 ((MW.trans s0)).size) hn0 hc0 hk0)).mono ?_
        rintro e w' ⟨A, N, C, rfl, hcc, ow, mm⟩
        exact ⟨_, g, rfl, ⟨⟨s0.trans mm, mm.cellAt s1, mm.cellAt s2, mm.cellAt s3, mm.cellAt s4, mm.cellAt s5, mm.cellAt s6, mm.cellAt s7⟩, hB2.mk0 mm⟩, BxX.same mm, ⟨⟨_, _, _, A, N, C⟩, wv.heap.size, w'.heap.size, rfl, ⟨rfl, rfl, rfl, ow, hcc.2.1, hcc.2.2, hcc.1⟩, s0.size, mm.size, Nat.le_refl _⟩⟩
      try simp only [Act.put, List.getElem_toArray, List.getElem_cons_succ, List.getElem_cons_zero, List.setIfInBounds_toArray, List.set_cons_zero, List.set_cons_succ]
      refine WkH.value (m := 4) (k := 3) (by decide) rfl rfl (of_decide_eq_true (by rfl)) rfl (fun g wv hS hF => ?_) (fun v3 => ?_)
      · obtain ⟨⟨s0, s1, s2, s3, s4, s5, s6, s7⟩, hB2⟩ := hS
        exact ⟨.agg #[.int .i64 x1, .int .i64 y1, .slice a1 n1 c1], wv, g, (by go_simp; try with_reducible rfl), ⟨⟨s0, s1, s2, s3, s4, s5, s6, s7⟩, hB2⟩, BxX.same (Mk.refl _ _ _), rfl⟩
      try simp only [Act.put, List.getElem_toArray, List.getElem_cons_succ, List.getElem_cons_zero, List.setIfInBounds_toArray, List.set_cons_zero, List.set_cons_succ]
      refine WkH.value (m := 3) (k := 4) (by decide) rfl rfl (of_decide_eq_true (by rfl)) rfl (fun g wv hS hF => ?_) (fun v4 => ?_)
      · obtain ⟨⟨s0, s1, s2, s3, s4, s5, s6, s7⟩, hB2⟩ := hS
        exact ⟨.int .i64 (j : Int), wv, g, (by go_simp; try with_reducible rfl), ⟨⟨s0, s1, s2, s3, s4, s5, s6, s7⟩, hB2⟩, BxX.same (Mk.refl _ _ _), rfl⟩
      try simp only [Act.put, List.getElem_toArray, List.getElem_cons_succ, List.getElem_cons_zero, List.setIfInBounds_toArray, List.set_cons_zero, List.set_cons_succ]
      refine WkH.call (m := 2) (k := 5) (by decide) rfl rfl (of_decide_eq_true (by rfl)) rfl (fun g wv hS hF => ?_) (fun v5 => ?_)
      · obtain ⟨⟨s0, s1, s2, s3, s4, s5, s6, s7⟩, hB2⟩ := hS
        have f3 : v3 = .agg #[.int .i64 x1, .int .i64 y1, .slice a1 n1 c1] := hF 3 (by rfl)
        obtain rfl := f3
        have f4 : v4 = .int .i64 (j : Int) := hF 4 (by rfl)
        obtain rfl := f4
        have f2 : ∃ (g2 : HPathPart) (lo2 hi2 : Nat), v2 = .agg #[.int .i64 g2.kind, .int .i64 g2.ts, .int .i64 g2.beta, .slice g2.a g2.n g2.c] ∧ WPathPart.kid wv lo2 hi2 g2 (mpEl x0 y0 z0 n0 1 p.1) ∧ W2.heap.size ≤ lo2 ∧ lo2 ≤ hi2 ∧ hi2 ≤ wv.heap.size := hF 2 (by rfl)
        obtain ⟨g2, lo2, hi2, rfl, q2, p2, d2, z⟩ := f2
        refine ⟨_, _, (by go_simp; first | done | exact ⟨rfl, rfl⟩ | with_reducible rfl), ?_⟩
        refine ((implMkP x1 y1 a1 n1 c1 B1 z1 4 (j : Int) wv (h1.mk (MW.trans s0) hB1 (.inr (Nat.le_refl _))) (Nat.le_trans hB1 ((MW.trans s0)).size) hn1 hc1 hk1)).mono ?_
        rintro e w' ⟨A, N, C, rfl, hcc, ow, mm⟩
        exact ⟨_, g, rfl, ⟨⟨s0.trans mm, mm.cellAt s1, mm.cellAt s2, mm.cellAt s3, mm.cellAt s4, mm.cellAt s5, mm.cellAt s6, mm.cellAt s7⟩, hB2.mk0 mm⟩, BxX.same mm, ⟨g2, ⟨_, _, _, A, N, C⟩, lo2, hi2, wv.heap.size, w'.heap.size, rfl, WPathPart.kid_mk q2 mm (by omega) (.inr (.inr (Nat.le_refl _))), p2, d2, rfl, ⟨rfl, rfl, rfl, ow, hcc.2.1, hcc.2.2, hcc.1⟩, z, mm.size, Nat.le_refl _⟩⟩
      try simp only [Act.put, List.getElem_toArray, List.getElem_cons_succ, List.getElem_cons_zero, List.setIfInBounds_toArray, List.set_cons_zero, List.set_cons_succ]
      refine WkH.value (m := 1) (k := 6) (by decide) rfl rfl (of_decide_eq_true (by rfl)) rfl (fun g wv hS hF => ?_) (fun v6 => ?_)
      · obtain ⟨⟨s0, s1, s2, s3, s4, s5, s6, s7⟩, hB2⟩ := hS
        have f5 : ∃ (g2 g5 : HPathPart) (lo2 hi2 lo5 hi5 : Nat), v2 = .agg #[.int .i64 g2.kind, .int .i64 g2.ts, .int .i64 g2.beta, .slice g2.a g2.n g2.c] ∧ WPathPart.kid wv lo2 hi2 g2 (mpEl x0 y0 z0 n0 1 p.1) ∧ W2.heap.size ≤ lo2 ∧ lo2 ≤ hi2 ∧ v5 = .agg #[.int .i64 g5.kind, .int .i64 g5.ts, .int .i64 g5.beta, .slice g5.a g5.n g5.c] ∧ WPathPart.kid wv lo5 hi5 g5 (mpEl x1 y1 z1 n1 4 (j : Int)) ∧ hi2 ≤ lo5 ∧ lo5 ≤ hi5 ∧ hi5 ≤ wv.heap.size := hF 5 (by rfl)
        obtain ⟨g2, g5, lo2, hi2, lo5, hi5, rfl, q2, p2, d2, rfl, q5, p5, d5, z⟩ := f5
        have mm := Mk.alloc wv (Obj.cells #[.int .i64 g2.kind, .int .i64 g2.ts, .int .i64 g2.beta, .slice g2.a g2.n g2.c, .int .i64 g5.kind, .int .i64 g5.ts, .int .i64 g5.beta, .slice g5.a g5.n g5.c] 35)
        exact ⟨.slice (some ⟨wv.heap.size, 0, none⟩) 2 2, (wv.alloc (Obj.cells #[.int .i64 g2.kind, .int .i64 g2.ts, .int .i64 g2.beta, .slice g2.a g2.n g2.c, .int .i64 g5.kind, .int .i64 g5.ts, .int .i64 g5.beta, .slice g5.a g5.n g5.c] 35)), g, (by go_simp; try with_reducible rfl), ⟨⟨s0.trans mm, mm.cellAt s1, mm.cellAt s2, mm.cellAt s3, mm.cellAt s4, mm.cellAt s5, mm.cellAt s6, mm.cellAt s7⟩, hB2.mk0 mm⟩, BxX.same mm, (by have zm := mm.size; exact ⟨g2, g5, lo2, hi2, lo5, hi5, wv.heap.size, rfl, hasR2 wv 35 g2 g5, WPathPart.kid_mk q2 mm (by omega) (.inr (.inr (Nat.le_refl _))), p2, d2, WPathPart.kid_mk q5 mm (by omega) (.inr (.inr (Nat.le_refl _))), p5, d5, Nat.le_trans z zm⟩)⟩
      try simp only [Act.put, List.getElem_toArray, List.getElem_cons_succ, List.getElem_cons_zero, List.setIfInBounds_toArray, List.set_cons_zero, List.set_cons_succ]
      refine WkH.call (m := 0) (k := 7) (by decide) rfl rfl (of_decide_eq_true (by rfl)) rfl (fun g wv hS hF => ?_) (fun v7 => ?_)
      · obtain ⟨⟨s0, s1, s2, s3, s4, s5, s6, s7⟩, hB2⟩ := hS
        have f6 : ∃ (g2 g5 : HPathPart) (lo2 hi2 lo5 hi5 : Nat) (NB : Nat), v6 = .slice (some ⟨NB, 0, none⟩) 2 2 ∧ HasR 4 HPathPart.cell wv wv.heap.size (some ⟨NB, 0, none⟩) 2 [g2, g5] ∧ WPathPart.kid wv lo2 hi2 g2 (mpEl x0 y0 z0 n0 1 p.1) ∧ W2.heap.size ≤ lo2 ∧ lo2 ≤ hi2 ∧ WPathPart.kid wv lo5 hi5 g5 (mpEl x1 y1 z1 n1 4 (j : Int)) ∧ hi2 ≤ lo5 ∧ lo5 ≤ hi5 ∧ hi5 ≤ wv.heap.size := hF 6 (by rfl)
        obtain ⟨g2, g5, lo2, hi2, lo5, hi5, NB, rfl, hr, q2, p2, d2, q5, p5, d5, z⟩ := f6
        refine ⟨_, _, (by go_simp; first | done | exact ⟨rfl, rfl⟩ | with_reducible rfl), ?_⟩
        refine ((pathOfH (some ⟨NB, 0, none⟩) 2 2 wv.heap.size [g2, g5] wv hr (Nat.le_refl _) (by omega))).mono ?_
        rintro e w' ⟨A, N, C, rfl, hcc, ow, mm⟩
        exact ⟨_, g, rfl, ⟨⟨s0.trans mm, mm.cellAt s1, mm.cellAt s2, mm.cellAt s3, mm.cellAt s4, mm.cellAt s5, mm.cellAt s6, mm.cellAt s7⟩, hB2.mk0 mm⟩, BxX.same mm, (by have zm := mm.size; exact ⟨g2, g5, lo2, hi2, lo5, hi5, A, N, C, wv.heap.size, w'.heap.size, rfl, hcc, ow, z, zm, Nat.le_refl _, WPathPart.kid_mk q2 mm (by omega) (.inr (.inr (Nat.le_refl _))), p2, d2, WPathPart.kid_mk q5 mm (by omega) (.inr (.inr (Nat.le_refl _))), p5, d5, Nat.le_trans z zm⟩)⟩
      try simp only [Act.put, List.getElem_toArray, List.getElem_cons_succ, List.getElem_cons_zero, List.setIfInBounds_toArray, List.set_cons_zero, List.set_cons_succ]
      refine WkH.done fun gE wE hE hF => ?_
      clear k0 k1 k2 l0 l1 l2 r0
      obtain ⟨⟨mE, k0, k1, k2, l0, l1, l2, r0⟩, hBE⟩ := hE
      change wpAny _ _ _ _ 1 _ _ _
      have f7 : ∃ (g2 g5 : HPathPart) (lo2 hi2 lo5 hi5 : Nat) (A : Option Addr) (N C lo hi : Nat), v7 = .agg #[.slice A N C] ∧ ((A = none → C = 0) ∧ (N ≤ C ∧ C ≤ 9223372036854775807)) ∧ OwnR 4 HPathPart.cell wE lo hi A N ([g2, g5].filter headP) ∧ hi5 ≤ lo ∧ lo ≤ hi ∧ hi ≤ wE.heap.size ∧ WPathPart.kid wE lo2 hi2 g2 (mpEl x0 y0 z0 n0 1 p.1) ∧ W2.heap.size ≤ lo2 ∧ lo2 ≤ hi2 ∧ WPathPart.kid wE lo5 hi5 g5 (mpEl x1 y1 z1 n1 4 (j : Int)) ∧ hi2 ≤ lo5 ∧ lo5 ≤ hi5 ∧ hi5 ≤ wE.heap.size := hF 7 (by decide)
      obtain ⟨g2, g5, lo2, hi2, lo5, hi5, A, N, C, lo, hi, rfl, hcc, hO, t1, t2, t3, q2, p2, d2, q5, p5, d5, z⟩ := f7
      have fE := (mE.frozen (b := w.heap.size + 1 + 1) (o := 0) (by omega) (.inr (Nat.zero_le _))).trans fR
      refine wpAny_ready (rs := [8]) (by kernel_rfl) (by simp) ?_
      refine (AllReady.cons rfl (fun K hK => ?_) AllReady.nil)
      go_simp
      refine hK _ _ ?_
      clear hK K
      try simp only [Act.put, List.getElem_toArray, List.getElem_cons_succ, List.getElem_cons_zero, List.setIfInBounds_toArray, List.set_cons_zero, List.set_cons_succ]
      refine wpAny_doneN (by kernel_rfl) ?_
      refine ‹∀ (a : Act) (w : World), _ → _› _ _ ?_
      have MEE := MW.trans mE
      replace r0 := World.cell?_setCell_same _ _ (.slice A N C) r0
      have nq2 : (mpRow z0 n0 1 p.1).length = g2.n := q2.2.2.2.1.1
      have nq5 : (mpRow z1 n1 4 (j : Int)).length = g5.n := q5.2.2.2.1.1
      have HF : [g2, g5].filter headP = (addIf (decide (0 < (mpRow z1 n1 4 (j : Int)).length)) (addIf (decide (0 < (mpRow z0 n0 1 p.1).length)) [] g2) g5) := by rw [filter2]; unfold headP; rw [nq2, nq5]
      rw [HF] at hO
      have hNl : addN (decide (0 < (mpRow z1 n1 4 (j : Int)).length)) (addN (decide (0 < (mpRow z0 n0 1 p.1).length)) 0) = N := (addIf_len _ (addIf_len _ rfl)).symm.trans hO.1
      have HK : Kids WPathPart wE W2.heap.size hi5 (fun q => lo ≤ q) N (addIf (decide (0 < (mpRow z1 n1 4 (j : Int)).length)) (addIf (decide (0 < (mpRow z0 n0 1 p.1).length)) [] g2) g5) (judI x0 y0 z0 n0 x1 y1 z1 n1 p.1 j) := by
        rw [← hNl]
        refine Kids.snocIf _ (Kids.snocIf _ (Kids.none_ _ _ _ W2.heap.size _ _ _) rfl rfl (by omega) d2 q2 (by omega) (fun b hb => ?_)) (addIf_len _ rfl) (addIf_len _ rfl) (by omega) d5 q5 (by omega) (fun b hb => ?_) <;> (have hb2 : lo ≤ b := hb; omega)
      have hRl : (judI x0 y0 z0 n0 x1 y1 z1 n1 p.1 j).length = N := by rw [← hNl]; exact addIf_len _ (addIf_len _ rfl)
      have hO2 := hO.set ⟨w.heap.size + 1 + 1, 0, none⟩ (.slice A N C) (.inl (show w.heap.size + 1 + 1 < lo by omega))
      have HK2 := HK.set ⟨w.heap.size + 1 + 1, 0, none⟩ (.slice A N C) (.inr (.inl (show w.heap.size + 1 + 1 < W2.heap.size by omega)))
      clear hO HK q2 q5
      have MS := MEE.put ⟨w.heap.size + 1 + 1, 0, none⟩ (.slice A N C) (show w.heap.size ≤ w.heap.size + 1 + 1 by omega)
      have zS : (wE.setCell ⟨w.heap.size + 1 + 1, 0, none⟩ (.slice A N C)).heap.size = wE.heap.size := by simp only [World.size_set]
      have hKF : KeepsFrom wS.heap.size W (wE.setCell ⟨w.heap.size + 1 + 1, 0, none⟩ (.slice A N C)) := (hK2.trans ⟨mE.size, fun k o _ hk _ => (mE.block k (Array.getElem?_eq_some_iff.1 hk).1 (.inr (Nat.zero_le _))).trans hk⟩).trans (KeepsFrom.of_grownBy (grownBy_setCell' _ _ _) (fun _ e => by cases e; omega))
      generalize (wE.setCell ⟨w.heap.size + 1 + 1, 0, none⟩ (.slice A N C)) = w9 at *
      have HOwn : OwnN WPathPart w9 w.heap.size w9.heap.size A N (judI x0 y0 z0 n0 x1 y1 z1 n1 p.1 j) := by
        refine ⟨hRl, _, (match A with | some a => a.block | none => 0), ?_, fun hn => ?_, (HK2.wide (by omega) (by omega)).avoid (fun q hq => ?_)⟩
        · refine ⟨hO2.1, fun hn => ?_⟩
          obtain ⟨b, off, rfl, g2, g3', g4⟩ := hO2.2 hn
          exact ⟨b, off, rfl, Nat.le_refl _, Nat.lt_succ_self _, g4⟩
        · obtain ⟨b, off, rfl, g2, g3', g4⟩ := hO2.2 hn
          exact ⟨by show w.heap.size ≤ b; omega, by show b < w9.heap.size; omega⟩
        · obtain ⟨hn, rfl⟩ := hq
          obtain ⟨b, off, rfl, g2, g3', g4⟩ := hO2.2 hn
          exact .inl g2
      gi_wp2
      exact ⟨hKF, ⟨rfl, pre, p, j, A, N, C, w.heap.size, w9.heap.size, rfl, ha, hli, r0, hcc, Nat.le_refl _, Nat.le_refl _, HOwn⟩, MS.below0⟩
  case done =>
    rintro D ys W hD rfl ⟨ha, hB⟩ hK
    have hme := bh_none z0 _ n1 n0 ha
    have mB := Mk.of_below hB
    replace r0 := mB.cellAt r0
    replace fR := (mB.frozen (b := w.heap.size + 1 + 1) (o := 0) (by omega) (.inr (Nat.zero_le _))).trans fR
    have MS := (ME.trans mB).put ⟨w.heap.size + 1 + 1, 0, none⟩ (.slice none 0 0) (show w.heap.size ≤ w.heap.size + 1 + 1 by omega)
    gi_wp2
    have hK2 : (W.setCell ⟨w.heap.size + 1 + 1, 0, none⟩ (.slice none 0 0)).heap[D]? = some (.deferred (some [])) := (Below.heap_setCell _ _ _ _ (by simp only; omega)).trans hK
    refine ⟨by simp, .inl ⟨_, _, rfl, run_takeDeferred hK2, ?_⟩⟩
    have hr2 := World.cell?_setCell_same _ _ (.slice none 0 0) r0
    have hr3 := Go.cell_kept hr2 (grownBy_putObj' _ D (.deferred none)) (fun r e => by cases e; exact ⟨_, hK2, rfl⟩)
    refine ⟨.agg #[.slice none 0 0], by simp [results, Try.results22, go_sem, hr3], none, 0, 0, rfl, ⟨fun _ => rfl, Nat.le_refl _, by decide⟩, ?_, ?_⟩
    · rw [show (judR x0 y0 z0 n0 x1 y1 z1 n1) = [] by unfold judR; rw [hme]; rfl]
      exact ⟨rfl, [], w.heap.size, ⟨rfl, fun h => absurd h (Nat.lt_irrefl _)⟩, fun h => absurd h (Nat.lt_irrefl _), Kids.none_ _ _ _ _ _ _ _⟩
    · exact Mk.of_below (MS.below0.trans (belowK_b (w := wS) ME.size _ D _ _ hD hK2 rfl rfl))
  case stop =>
    rintro D k pre W hD hSp ⟨⟨rfl, q, p, j, A, N, C, lo, hi, rfl, ha, hj, hr, hcc, hlo, hhi, hO⟩, hB⟩ hK
    obtain ⟨i, hi0, e1, e2⟩ := bh_hit z0 _ n1 n0 j q p hSp ha hj
    have HR := Lib.hid (judR_I x0 y0 z0 n0 x1 y1 z1 n1 i j h0.1 h1.1 hi0 (lastIdx_lt _ _ _ _ hj) e2)
    gi_wp2
    refine ⟨by simp, .inl ⟨_, _, rfl, run_takeDeferred hK, ?_⟩⟩
    have hkk : ∀ r, some D = some r → ∃ o : Obj, W.heap[r]? = some o ∧ o.isCells = false := fun r e => by cases e; exact ⟨_, hK, rfl⟩
    have hr3 := Go.cell_kept hr (grownBy_putObj' _ D (.deferred none)) hkk
    refine ⟨.agg #[.slice A N C], by simp [results, Try.results22, go_sem, hr3], A, N, C, rfl, hcc, ?_, Mk.of_below (hB.trans (belowK_b (w := wS) ME.size _ D _ _ hD hK rfl rfl))⟩
    rw [HR.out, ← e1]
    exact (ownN_kept hO (grownBy_putObj' _ D (.deferred none)) hkk).wide hlo (Nat.le_trans hhi (grownBy_putObj' W D (.deferred none)).size)
theorem implJudL (x0 y0 : Int) (a0 : Option Addr) (n0 c0 B0 : Nat) (z0 : List THop) (x1 y1 : Int) (a1 : Option Addr) (n1 c1 B1 : Nat) (z1 : List THop) (w : World) (h0 : HasHop w B0 a0 n0 z0) (hB0 : B0 ≤ w.heap.size) (hn0 : n0 ≤ 1048576) (hc0 : a0 = none → c0 = 0) (hk0 : n0 ≤ c0) (h1 : HasHop w B1 a1 n1 z1) (hB1 : B1 ≤ w.heap.size) (hn1 : n1 ≤ 1048576) (hc1 : a1 = none → c1 = 0) (hk1 : n1 ≤ c1) :
    Calls Try.prog 22 #[.agg #[.int .i64 x0, .int .i64 y0, .slice a0 n0 c0], .agg #[.int .i64 x1, .int .i64 y1, .slice a1 n1 c1]] w (OutNPath (judR x0 y0 z0 n0 x1 y1 z1 n1) w) := callsIn_wide.1 (jud_in x0 y0 a0 n0 c0 B0 z0 x1 y1 a1 n1 c1 B1 z1 w h0 hB0 hn0 hc0 hk0 h1 hB1 hn1 hc1 hk1)

set_option maxRecDepth 100000 in
set_option maxHeartbeats 4000000 in
theorem specJudL (x0 y0 : Int) (a0 : Option Addr) (n0 c0 B0 : Nat) (z0 : List THop) (x1 y1 : Int) (a1 : Option Addr) (n1 c1 B1 : Nat) (z1 : List THop) (w : World) (h0 : HasHop w B0 a0 n0 z0) (hB0 : B0 ≤ w.heap.size) (hn0 : n0 ≤ 1048576) (hc0 : a0 = none → c0 = 0) (hk0 : n0 ≤ c0) (h1 : HasHop w B1 a1 n1 z1) (hB1 : B1 ≤ w.heap.size) (hn1 : n1 ≤ 1048576) (hc1 : a1 = none → c1 = 0) (hk1 : n1 ≤ c1) :
    Calls Try.prog 21 #[.agg #[.int .i64 x0, .int .i64 y0, .slice a0 n0 c0], .agg #[.int .i64 x1, .int .i64 y1, .slice a1 n1 c1]] w (OutNPath (judR x0 y0 z0 n0 x1 y1 z1 n1) w) := by
  have M0 : Mk0 w (((w.alloc (Obj.cells #[Value.int .i64 x0, Value.int .i64 y0, Value.slice a0 n0 c0] 28)).alloc (Obj.cells #[Value.int .i64 x1, Value.int .i64 y1, Value.slice a1 n1 c1] 28)).alloc (Obj.cells #[Value.slice none 0 0] 42)) := (((Mk.alloc w (Obj.cells #[Value.int .i64 x0, Value.int .i64 y0, Value.slice a0 n0 c0] 28)).new (Obj.cells #[Value.int .i64 x1, Value.int .i64 y1, Value.slice a1 n1 c1] 28)).new (Obj.cells #[Value.slice none 0 0] 42))
  have k0 : (((w.alloc (Obj.cells #[Value.int .i64 x0, Value.int .i64 y0, Value.slice a0 n0 c0] 28)).alloc (Obj.cells #[Value.int .i64 x1, Value.int .i64 y1, Value.slice a1 n1 c1] 28)).alloc (Obj.cells #[Value.slice none 0 0] 42)).cell? ⟨w.heap.size, 0, none⟩ = some (.int .i64 x0) := by simp [go_sem]
  have k1 : (((w.alloc (Obj.cells #[Value.int .i64 x0, Value.int .i64 y0, Value.slice a0 n0 c0] 28)).alloc (Obj.cells #[Value.int .i64 x1, Value.int .i64 y1, Value.slice a1 n1 c1] 28)).alloc (Obj.cells #[Value.slice none 0 0] 42)).cell? ⟨w.heap.size, 1, none⟩ = some (.int .i64 y0) := by simp [go_sem]
  have k2 : (((w.alloc (Obj.cells #[Value.int .i64 x0, Value.int .i64 y0, Value.slice a0 n0 c0] 28)).alloc (Obj.cells #[Value.int .i64 x1, Value.int .i64 y1, Value.slice a1 n1 c1] 28)).alloc (Obj.cells #[Value.slice none 0 0] 42)).cell? ⟨w.heap.size, 2, none⟩ = some (.slice a0 n0 c0) := by simp [go_sem]
  have l0 : (((w.alloc (Obj.cells #[Value.int .i64 x0, Value.int .i64 y0, Value.slice a0 n0 c0] 28)).alloc (Obj.cells #[Value.int .i64 x1, Value.int .i64 y1, Value.slice a1 n1 c1] 28)).alloc (Obj.cells #[Value.slice none 0 0] 42)).cell? ⟨w.heap.size + 1, 0, none⟩ = some (.int .i64 x1) := by simp [go_sem]
  have l1 : (((w.alloc (Obj.cells #[Value.int .i64 x0, Value.int .i64 y0, Value.slice a0 n0 c0] 28)).alloc (Obj.cells #[Value.int .i64 x1, Value.int .i64 y1, Value.slice a1 n1 c1] 28)).alloc (Obj.cells #[Value.slice none 0 0] 42)).cell? ⟨w.heap.size + 1, 1, none⟩ = some (.int .i64 y1) := by simp [go_sem]
  have l2 : (((w.alloc (Obj.cells #[Value.int .i64 x0, Value.int .i64 y0, Value.slice a0 n0 c0] 28)).alloc (Obj.cells #[Value.int .i64 x1, Value.int .i64 y1, Value.slice a1 n1 c1] 28)).alloc (Obj.cells #[Value.slice none 0 0] 42)).cell? ⟨w.heap.size + 1, 2, none⟩ = some (.slice a1 n1 c1) := by simp [go_sem]
  have r0 : (((w.alloc (Obj.cells #[Value.int .i64 x0, Value.int .i64 y0, Value.slice a0 n0 c0] 28)).alloc (Obj.cells #[Value.int .i64 x1, Value.int .i64 y1, Value.slice a1 n1 c1] 28)).alloc (Obj.cells #[Value.slice none 0 0] 42)).cell? ⟨w.heap.size + 1 + 1, 0, none⟩ = some (.slice none 0 0) := by simp [go_sem]
  have hs0 : (((w.alloc (Obj.cells #[Value.int .i64 x0, Value.int .i64 y0, Value.slice a0 n0 c0] 28)).alloc (Obj.cells #[Value.int .i64 x1, Value.int .i64 y1, Value.slice a1 n1 c1] 28)).alloc (Obj.cells #[Value.slice none 0 0] 42)).heap.size = w.heap.size + 1 + 1 + 1 := by simp only [World.size_alloc]
  have fR : ∀ q, (((w.alloc (Obj.cells #[Value.int .i64 x0, Value.int .i64 y0, Value.slice a0 n0 c0] 28)).alloc (Obj.cells #[Value.int .i64 x1, Value.int .i64 y1, Value.slice a1 n1 c1] 28)).alloc (Obj.cells #[Value.slice none 0 0] 42)).frozen? ⟨w.heap.size + 1 + 1, q, none⟩ = false := fun q => by simp [go_sem]
  have hs1 : w.heap.size + 1 + 1 < (((w.alloc (Obj.cells #[Value.int .i64 x0, Value.int .i64 y0, Value.slice a0 n0 c0] 28)).alloc (Obj.cells #[Value.int .i64 x1, Value.int .i64 y1, Value.slice a1 n1 c1] 28)).alloc (Obj.cells #[Value.slice none 0 0] 42)).heap.size := by rw [hs0]; exact Nat.lt_succ_self _
  clear hs0
  go_enter Try.func21, Try.ntmps21
  go_wp2_with fail
  generalize (((w.alloc (Obj.cells #[Value.int .i64 x0, Value.int .i64 y0, Value.slice a0 n0 c0] 28)).alloc (Obj.cells #[Value.int .i64 x1, Value.int .i64 y1, Value.slice a1 n1 c1] 28)).alloc (Obj.cells #[Value.slice none 0 0] 42)) = wb at *
  refine (specJud x0 y0 a0 n0 c0 B0 z0 x1 y1 a1 n1 c1 B1 z1 wb (h0.mk M0 hB0 (.inr (Nat.le_refl _))) (Nat.le_trans hB0 M0.size) hn0 hc0 hk0 (h1.mk M0 hB1 (.inr (Nat.le_refl _))) (Nat.le_trans hB1 M0.size) hn1 hc1 hk1).mono ?_
  rintro e w2 ⟨A, N, C, rfl, hc, hO, m2⟩
  replace r0 := m2.cellAt r0
  have fr2 : ∀ q, w2.frozen? ⟨w.heap.size + 1 + 1, q, none⟩ = false := fun q => (m2.frozen (b := w.heap.size + 1 + 1) (o := q) (by omega) (.inr (Nat.zero_le _))).trans (fR q)
  have MF := M0.trans m2
  have z2 := m2.size
  go_wp2_with fail
  replace r0 := World.cell?_setCell_same _ _ (.slice A N C) r0
  refine bodyPost_ret (v := .agg #[.slice A N C]) (by simp [results, Try.results21, go_sem, r0]) rfl ⟨A, N, C, rfl, hc, ?_, MF.put _ _ (show w.heap.size ≤ w.heap.size + 1 + 1 by omega)⟩
  exact (hO.set ⟨w.heap.size + 1 + 1, 0, none⟩ (.slice A N C) (.inl (show w.heap.size + 1 + 1 < wb.heap.size by omega))).wide (by omega) (by simp only [World.size_set]; exact Nat.le_refl _)

theorem judRow_le (zs : List THop) (n : Nat) (kd f : Int) (h : zs.length = n) : (mpRow zs n kd f).length ≤ n := by
  unfold mpRow
  split
  · split
    · unfold turnP; rw [List.length_take, turnL_len]; omega
    · rw [List.length_drop, h]; omega
  · exact Nat.zero_le _
theorem jud_sz {x0 y0 x1 y1 : Int} {z0 z1 : List THop} {n0 n1 N : Nat} (h0 : z0.length = n0) (h1 : z1.length = n1) (hN : (judR x0 y0 z0 n0 x1 y1 z1 n1).length = N) (hs : n0 + n1 ≤ 1048576) : szPathPart (judR x0 y0 z0 n0 x1 y1 z1 n1) N ≤ 1572864 := by
  unfold judR at *
  generalize meetAt (colN THop.nd z0 n0) (colN THop.nd z1 n1) n1 n0 = o at *
  cases o with
  | none =>
    obtain rfl := hN
    exact (by decide : szPathPart [] 0 ≤ 1572864)
  | some p =>
    obtain rfl := hN
    obtain ⟨i, k⟩ := p
    have l0 : sePathPart (mpEl x0 y0 z0 n0 1 i) ≤ n0 := judRow_le _ _ _ _ h0
    have l1 : sePathPart (mpEl x1 y1 z1 n1 4 k) ≤ n1 := judRow_le _ _ _ _ h1
    have e : sumTo sePathPart [mpEl x0 y0 z0 n0 1 i, mpEl x1 y1 z1 n1 4 k] 2 = 0 + sePathPart (mpEl x0 y0 z0 n0 1 i) + sePathPart (mpEl x1 y1 z1 n1 4 k) := rfl
    show szPathPart [mpEl x0 y0 z0 n0 1 i, mpEl x1 y1 z1 n1 4 k] 2 ≤ _
    unfold szPathPart
    omega

end Go.Proofs.Ytbkbkpnpllemfaa
