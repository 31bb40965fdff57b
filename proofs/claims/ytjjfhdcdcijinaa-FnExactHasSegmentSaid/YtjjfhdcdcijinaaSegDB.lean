
/- SegmentCount and HasSegment of both sides. -/
import Derived.Test.YtjjfhdcdcijinaaEqSeg
import Derived.Test.YtjjfhdcdcijinaaCSegmentDatabase
namespace Go.Proofs.Ytjjfhdcdcijinaa
open Go.ChangeShapes Go.WideShapes Go.ChangeAt Go.RowKit
set_option linter.unusedVariables false
def anyTo {α : Type} [Inhabited α] (p : α → Bool) (zs : List α) : Nat → Bool
  | 0 => false
  | k + 1 => anyTo p zs k || p (zs.getD k default)
theorem anyTo_hit {α : Type} [Inhabited α] {p : α → Bool} {zs : List α} {k : Nat} (h : p (zs.getD k default) = true) : ∀ n, k < n → anyTo p zs n = true
  | 0, hk => absurd hk (by omega)
  | n + 1, hk => by
    rw [anyTo]
    by_cases e : k = n
    · subst e; rw [h]; simp
    · rw [anyTo_hit h n (by omega)]; rfl
theorem anyTo_go {α : Type} [Inhabited α] {p : α → Bool} {zs : List α} {k : Nat} (h0 : anyTo p zs k = false) (h : p (zs.getD k default) = false) : anyTo p zs (k + 1) = false := by
  rw [anyTo, h0, h]; rfl
def isSegT (y0 y1 : Int) (ps : List THop) (m : Nat) (x : TSegment) : Bool := eqSegB x.ts x.beta y0 y1 x.hops ps x.hops.length m

set_option maxRecDepth 100000 in
set_option maxHeartbeats 4000000 in
theorem specSegCount (a0 a1 : Option Addr) (n0 c0 n1 c1 : Nat) (w : World) (h0 : n0 ≤ 1048576) (h1 : n1 ≤ 1048576) :
    Calls Try.prog 13 #[.agg #[.slice a0 n0 c0, .slice a1 n1 c1]] w fun e w' => e = .returned (.int .i64 ((n0 : Int) + n1)) ∧ Mk0 w w' := by
  go_enter Try.func13, Try.ntmps13
  go_wp2_with fail
  go_ret
  exact ⟨rfl, Mk.alloc _ _⟩

set_option maxRecDepth 100000 in
set_option maxHeartbeats 4000000 in
theorem implSegCount (a0 a1 : Option Addr) (n0 c0 n1 c1 : Nat) (w : World) (h0 : n0 ≤ 1048576) (h1 : n1 ≤ 1048576) :
    Calls Try.prog 15 #[.agg #[.slice a0 n0 c0, .slice a1 n1 c1]] w fun e w' => e = .returned (.int .i64 ((n0 : Int) + n1)) ∧ Mk0 w w' := by
  go_enter Try.func15, Try.ntmps15
  go_wp2_with fail
  go_ret
  exact ⟨rfl, Mk.alloc _ _⟩

set_option maxRecDepth 100000 in
set_option maxHeartbeats 4000000 in
theorem hsFn (x0 x1 y0 y1 : Int) (a a' : Option Addr) (n c m c' g B B' : Nat) (zs ps : List THop) (w : World) (hc0 : w.cell? ⟨g, 0, none⟩ = some (.int .i64 y0)) (hc1 : w.cell? ⟨g, 1, none⟩ = some (.int .i64 y1)) (hc2 : w.cell? ⟨g, 2, none⟩ = some (.slice a' m c')) (h : HasHop w B a n zs) (h' : HasHop w B' a' m ps) (hB : B ≤ w.heap.size) (hB' : B' ≤ w.heap.size) (hn : n ≤ 1048576) (hn' : m ≤ 1048576) :
    Calls Try.prog 50 #[.agg #[.int .i64 x0, .int .i64 x1, .slice a n c], .pointer (some ⟨g, 0, none⟩)] w fun e w' => e = .returned (.bool (eqSegB x0 x1 y0 y1 zs ps n m)) ∧ Mk0 w w' := by
  have M0 := Mk.alloc w (Obj.cells #[Value.int .i64 x0, Value.int .i64 x1, Value.slice a n c] 40)
  have hg := World.block_lt_of_cell? _ _ hc0
  simp only at hg
  have k0 := M0.cellAt hc0
  have k1 := M0.cellAt hc1
  have k2 := M0.cellAt hc2
  go_enter Try.func50, Try.ntmps50
  go_wp2_with fail
  refine (implEqSeg x0 x1 y0 y1 a a' n m c c' B B' zs ps _ (h.mk M0 hB (.inr (Nat.le_refl _))) (h'.mk M0 hB' (.inr (Nat.le_refl _))) (Nat.le_trans hB M0.size) (Nat.le_trans hB' M0.size) hn hn').mono ?_
  rintro e w2 ⟨rfl, m2⟩
  go_wp2_with fail
  go_ret
  exact ⟨rfl, M0.trans m2⟩

set_option maxRecDepth 100000 in
set_option maxHeartbeats 4000000 in
theorem hsIndex (y0 y1 : Int) (a a' : Option Addr) (n c m c' g B B' : Nat) (zs : List TSegment) (ps : List THop) (w : World) (hc0 : w.cell? ⟨g, 0, none⟩ = some (.int .i64 y0)) (hc1 : w.cell? ⟨g, 1, none⟩ = some (.int .i64 y1)) (hc2 : w.cell? ⟨g, 2, none⟩ = some (.slice a' m c')) (h : HasSegment w B a n zs) (h' : HasHop w B' a' m ps) (hB : B ≤ w.heap.size) (hB' : B' ≤ w.heap.size) (hn : szSegment zs n ≤ 1048576) (hn' : m ≤ 1048576) :
    Calls Try.prog 92 #[.slice a n c, .func (Fn.func 50) #[] #[.pointer (some ⟨g, 0, none⟩)]] w fun e w' => ∃ i : Int, e = .returned (.int .i64 i) ∧ (((anyTo (isSegT y0 y1 ps m) zs n) = true ∧ 0 ≤ i) ∨ ((anyTo (isSegT y0 y1 ps m) zs n) = false ∧ i = -1)) ∧ Mk0 w w' := by
  have hn0 : n ≤ 1048576 := Nat.le_trans (szSegment_n zs n) hn
  go_enter Try.func92, Try.ntmps92
  go_wp2_with fail
  go_loopw [4, 8] (fun r i wr => r = .int .i64 0 ∧ ∃ k : Nat, k ≤ n ∧ i = .int .i64 k ∧ Hid (anyTo (isSegT y0 y1 ps m) zs k = false) ∧ Mk0 w wr) (fun _ i _ => n - (intOf i).toNat)
  case atStart => exact ⟨rfl, 0, Nat.zero_le _, rfl, rfl, Mk.refl _ _ _⟩
  case round =>
    obtain ⟨rfl, k, hk, rfl, hS, hM⟩ := hrel
    by_cases hlt : k < n
    · obtain ⟨b, off, x, rfl, hb, hx, aa, nn, cc, d0, d1, d2, rr, mm1, tt, zz⟩ := HasSegment.at _ _ _ _ _ _ (h.mk hM hB (.inr (Nat.le_refl _))) hlt
      have hS3 : nn ≤ 1048576 := by have HS := szSegment_at zs hlt; rw [← hx.out] at HS; unfold seSegment at HS; rw [rr.1] at HS; omega
      have hB1 := Nat.le_trans hB hM.size
      have hB1' := Nat.le_trans hB' hM.size
      have q0 := hM.cellAt hc0
      have q1 := hM.cellAt hc1
      have q2 := hM.cellAt hc2
      have h2 := h'.mk hM hB' (.inr (Nat.le_refl _))
      have HV := Lib.hid (show eqSegB x.ts x.beta y0 y1 x.hops ps nn m = isSegT y0 y1 ps m (zs.getD k default) by rw [← hx.out]; unfold isSegT; rw [rr.1])
      cases he : isSegT y0 y1 ps m (zs.getD k default)
      · have HE := Lib.hid (anyTo_go hS.out he)
        replace HV := Lib.hid (HV.out.trans he)
        clear he
        go_wp2_with fail
        refine (hsFn x.ts x.beta y0 y1 aa a' nn cc m c' g B B' x.hops ps _ q0 q1 q2 rr h2 hB1 hB1' hS3 hn').mono ?_
        rintro e w2 ⟨hv, m2⟩
        rw [HV.out] at hv
        subst hv
        go_wp2_with fail
        go_roundw
        case rel => exact ⟨rfl, k + 1, by omega, by go_num, HE.out, hM.trans m2⟩
        case measure => simp [intOf]; omega
      · have HE := Lib.hid (anyTo_hit he n hlt)
        replace HV := Lib.hid (HV.out.trans he)
        clear he
        go_wp2_with fail
        refine (hsFn x.ts x.beta y0 y1 aa a' nn cc m c' g B B' x.hops ps _ q0 q1 q2 rr h2 hB1 hB1' hS3 hn').mono ?_
        rintro e w2 ⟨hv, m2⟩
        rw [HV.out] at hv
        subst hv
        go_wp2_with fail
        go_ret
        exact ⟨_, rfl, .inl ⟨HE.out, by omega⟩, hM.trans m2⟩
    · obtain rfl : k = n := by omega
      go_wp2_with fail
      go_ret
      exact ⟨_, rfl, .inr ⟨hS.out, rfl⟩, hM⟩

set_option maxRecDepth 100000 in
set_option maxHeartbeats 4000000 in
theorem hsContains (y0 y1 : Int) (a a' : Option Addr) (n c m c' g B B' : Nat) (zs : List TSegment) (ps : List THop) (w : World) (hc0 : w.cell? ⟨g, 0, none⟩ = some (.int .i64 y0)) (hc1 : w.cell? ⟨g, 1, none⟩ = some (.int .i64 y1)) (hc2 : w.cell? ⟨g, 2, none⟩ = some (.slice a' m c')) (h : HasSegment w B a n zs) (h' : HasHop w B' a' m ps) (hB : B ≤ w.heap.size) (hB' : B' ≤ w.heap.size) (hn : szSegment zs n ≤ 1048576) (hn' : m ≤ 1048576) :
    Calls Try.prog 52 #[.slice a n c, .func (Fn.func 50) #[] #[.pointer (some ⟨g, 0, none⟩)]] w fun e w' => e = .returned (.bool (anyTo (isSegT y0 y1 ps m) zs n)) ∧ Mk0 w w' := by
  go_enter Try.func52, Try.ntmps52
  go_wp2_with fail
  refine (hsIndex y0 y1 a a' n c m c' g B B' zs ps _ hc0 hc1 hc2 h h' hB hB' hn hn').mono ?_
  rintro e w2 ⟨i, rfl, hi, m2⟩
  rcases hi with ⟨h1, h2⟩ | ⟨h1, rfl⟩
  · have HH := Lib.hid h1
    have dh : decide (0 ≤ i) = true := by simpa using h2
    clear h1
    go_wp2_with fail
    go_ret
    exact ⟨retB HH.out.symm, m2⟩
  · have HH := Lib.hid h1
    clear h1
    go_wp2_with fail
    go_ret
    exact ⟨retB HH.out.symm, m2⟩

set_option maxRecDepth 100000 in
set_option maxHeartbeats 4000000 in
theorem specHas (y0 y1 : Int) (a a' : Option Addr) (n c m c' B B' : Nat) (zs : List TSegment) (ps : List THop) (w : World) (h : HasSegment w B a n zs) (h' : HasHop w B' a' m ps) (hB : B ≤ w.heap.size) (hB' : B' ≤ w.heap.size) (hn : szSegment zs n ≤ 1048576) (hn' : m ≤ 1048576) :
    Calls Try.prog 48 #[.slice a n c, .agg #[.int .i64 y0, .int .i64 y1, .slice a' m c']] w fun e w' => e = .returned (.bool (anyTo (isSegT y0 y1 ps m) zs n)) ∧ Mk0 w w' := by
  have hn0 : n ≤ 1048576 := Nat.le_trans (szSegment_n zs n) hn
  have M0 := Mk.alloc w (Obj.cells #[Value.int .i64 y0, Value.int .i64 y1, Value.slice a' m c'] 40)
  go_enter Try.func48, Try.ntmps48
  go_wp2_with fail
  go_loopw [4, 5] (fun r i wr => r = .bool false ∧ ∃ k : Nat, k ≤ n ∧ i = .int .i64 k ∧ Hid (anyTo (isSegT y0 y1 ps m) zs k = false) ∧ Mk0 (w.alloc (Obj.cells #[Value.int .i64 y0, Value.int .i64 y1, Value.slice a' m c'] 40)) wr) (fun _ i _ => n - (intOf i).toNat)
  case atStart => exact ⟨rfl, 0, Nat.zero_le _, rfl, rfl, Mk.refl _ _ _⟩
  case round =>
    obtain ⟨rfl, k, hk, rfl, hS, hM⟩ := hrel
    have hM' := M0.trans hM
    have k0 : (w.alloc (Obj.cells #[Value.int .i64 y0, Value.int .i64 y1, Value.slice a' m c'] 40)).cell? ⟨w.heap.size, 0, none⟩ = some (.int .i64 y0) := by simp [go_sem]
    replace k0 := hM.cellAt k0
    have k1 : (w.alloc (Obj.cells #[Value.int .i64 y0, Value.int .i64 y1, Value.slice a' m c'] 40)).cell? ⟨w.heap.size, 1, none⟩ = some (.int .i64 y1) := by simp [go_sem]
    replace k1 := hM.cellAt k1
    have k2 : (w.alloc (Obj.cells #[Value.int .i64 y0, Value.int .i64 y1, Value.slice a' m c'] 40)).cell? ⟨w.heap.size, 2, none⟩ = some (.slice a' m c') := by simp [go_sem]
    replace k2 := hM.cellAt k2
    have y9 := World.block_lt_of_cell? _ _ k0
    simp only at y9
    by_cases hlt : k < n
    · obtain ⟨b, off, x, rfl, hb, hx, aa, nn, cc, d0, d1, d2, rr, mm1, tt, zz⟩ := HasSegment.at _ _ _ _ _ _ (h.mk hM' hB (.inr (Nat.le_refl _))) hlt
      have hS3 : nn ≤ 1048576 := by have HS := szSegment_at zs hlt; rw [← hx.out] at HS; unfold seSegment at HS; rw [rr.1] at HS; omega
      have hB1 := Nat.le_trans hB hM'.size
      have hB1' := Nat.le_trans hB' hM'.size
      have h2 := h'.mk hM' hB' (.inr (Nat.le_refl _))
      have HV := Lib.hid (show eqSegB x.ts x.beta y0 y1 x.hops ps nn m = isSegT y0 y1 ps m (zs.getD k default) by rw [← hx.out]; unfold isSegT; rw [rr.1])
      cases he : isSegT y0 y1 ps m (zs.getD k default)
      · have HE := Lib.hid (anyTo_go hS.out he)
        replace HV := Lib.hid (HV.out.trans he)
        clear he
        go_wp2_with fail
        go_region_with (go_at_call 89; refine (specEqSeg x.ts x.beta y0 y1 aa a' nn m cc c' B B' x.hops ps _ (rr.mk (Mk.drew1 _) hB1 (.inr (Nat.le_refl _))) (h2.mk (Mk.drew1 _) hB1' (.inr (Nat.le_refl _))) hB1 hB1' hS3 hn').mono ?_; rintro e w2 ⟨hv, m2⟩; rw [HV.out] at hv; subst hv)
        all_goals (
          have m3 : Mk0 wr w2 := ⟨m2.os, m2.tape, m2.output, m2.size, m2.block⟩
          clear m2 d0 d1 d2
          refine ‹∀ (a : Act) (w : World), _ → _› _ _ ?_
          go_wp2_with fail
          go_roundw
          case rel => exact ⟨rfl, k + 1, by omega, by go_num, HE.out, hM.trans m3⟩
          case measure => simp [intOf]; omega)
      · have HE := Lib.hid (anyTo_hit he n hlt)
        replace HV := Lib.hid (HV.out.trans he)
        clear he
        go_wp2_with fail
        go_region_with (go_at_call 89; refine (specEqSeg x.ts x.beta y0 y1 aa a' nn m cc c' B B' x.hops ps _ (rr.mk (Mk.drew1 _) hB1 (.inr (Nat.le_refl _))) (h2.mk (Mk.drew1 _) hB1' (.inr (Nat.le_refl _))) hB1 hB1' hS3 hn').mono ?_; rintro e w2 ⟨hv, m2⟩; rw [HV.out] at hv; subst hv)
        all_goals (
          have m3 : Mk0 wr w2 := ⟨m2.os, m2.tape, m2.output, m2.size, m2.block⟩
          clear m2 d0 d1 d2
          refine ‹∀ (a : Act) (w : World), _ → _› _ _ ?_
          go_wp2_with fail
          go_ret
          exact ⟨retB HE.out.symm, hM'.trans m3⟩)
    · obtain rfl : k = n := by omega
      go_wp2_with fail
      go_ret
      exact ⟨retB hS.out.symm, hM'⟩

set_option maxRecDepth 100000 in
set_option maxHeartbeats 4000000 in
theorem specHasSeg (y0 y1 : Int) (a0 a1 a' : Option Addr) (n0 c0 n1 c1 m c' B B' : Nat) (z0 z1 : List TSegment) (ps : List THop) (w : World) (h0 : HasSegment w B a0 n0 z0) (h1 : HasSegment w B a1 n1 z1) (h' : HasHop w B' a' m ps) (hB : B ≤ w.heap.size) (hB' : B' ≤ w.heap.size) (hn0 : szSegment z0 n0 ≤ 1048576) (hn1 : szSegment z1 n1 ≤ 1048576) (hn' : m ≤ 1048576) :
    Calls Try.prog 18 #[.agg #[.slice a0 n0 c0, .slice a1 n1 c1], .agg #[.int .i64 y0, .int .i64 y1, .slice a' m c']] w fun e w' => e = .returned (.bool (anyTo (isSegT y0 y1 ps m) z0 n0 || anyTo (isSegT y0 y1 ps m) z1 n1)) ∧ Mk0 w w' := by
  have M0 := (Mk.alloc w (Obj.cells #[Value.slice a0 n0 c0, Value.slice a1 n1 c1] 29)).new (Obj.cells #[Value.int .i64 y0, Value.int .i64 y1, Value.slice a' m c'] 40)
  have k0 : ((w.alloc (Obj.cells #[Value.slice a0 n0 c0, Value.slice a1 n1 c1] 29)).alloc (Obj.cells #[Value.int .i64 y0, Value.int .i64 y1, Value.slice a' m c'] 40)).cell? ⟨w.heap.size, 0, none⟩ = some (.slice a0 n0 c0) := by simp [go_sem]
  have k1 : ((w.alloc (Obj.cells #[Value.slice a0 n0 c0, Value.slice a1 n1 c1] 29)).alloc (Obj.cells #[Value.int .i64 y0, Value.int .i64 y1, Value.slice a' m c'] 40)).cell? ⟨w.heap.size, 1, none⟩ = some (.slice a1 n1 c1) := by simp [go_sem]
  have j0 : ((w.alloc (Obj.cells #[Value.slice a0 n0 c0, Value.slice a1 n1 c1] 29)).alloc (Obj.cells #[Value.int .i64 y0, Value.int .i64 y1, Value.slice a' m c'] 40)).cell? ⟨w.heap.size + 1, 0, none⟩ = some (.int .i64 y0) := by simp [go_sem]
  have j1 : ((w.alloc (Obj.cells #[Value.slice a0 n0 c0, Value.slice a1 n1 c1] 29)).alloc (Obj.cells #[Value.int .i64 y0, Value.int .i64 y1, Value.slice a' m c'] 40)).cell? ⟨w.heap.size + 1, 1, none⟩ = some (.int .i64 y1) := by simp [go_sem]
  have j2 : ((w.alloc (Obj.cells #[Value.slice a0 n0 c0, Value.slice a1 n1 c1] 29)).alloc (Obj.cells #[Value.int .i64 y0, Value.int .i64 y1, Value.slice a' m c'] 40)).cell? ⟨w.heap.size + 1, 2, none⟩ = some (.slice a' m c') := by simp [go_sem]
  cases he : anyTo (isSegT y0 y1 ps m) z0 n0
  · have HE := Lib.hid he
    clear he
    go_enter Try.func18, Try.ntmps18
    go_wp2_with fail
    refine (specHas y0 y1 a0 a' n0 c0 m c' B B' z0 ps _ (h0.mk M0 hB (.inr (Nat.le_refl _))) (h'.mk M0 hB' (.inr (Nat.le_refl _))) (Nat.le_trans hB M0.size) (Nat.le_trans hB' M0.size) hn0 hn').mono ?_
    rintro e w1 ⟨hv, m1⟩
    rw [HE.out] at hv
    subst hv
    have M1 := M0.trans m1
    replace k0 := m1.cellAt k0
    replace k1 := m1.cellAt k1
    replace j0 := m1.cellAt j0
    replace j1 := m1.cellAt j1
    replace j2 := m1.cellAt j2
    have g0 := World.block_lt_of_cell? _ _ k0
    have g1 := World.block_lt_of_cell? _ _ j0
    simp only at g0 g1
    go_wp2_with fail
    refine (specHas y0 y1 a1 a' n1 c1 m c' B B' z1 ps _ (h1.mk M1 hB (.inr (Nat.le_refl _))) (h'.mk M1 hB' (.inr (Nat.le_refl _))) (Nat.le_trans hB M1.size) (Nat.le_trans hB' M1.size) hn1 hn').mono ?_
    rintro e w2 ⟨rfl, m2⟩
    go_wp2_with fail
    go_ret
    exact ⟨rfl, M1.trans m2⟩
  · have HE := Lib.hid he
    clear he
    go_enter Try.func18, Try.ntmps18
    go_wp2_with fail
    refine (specHas y0 y1 a0 a' n0 c0 m c' B B' z0 ps _ (h0.mk M0 hB (.inr (Nat.le_refl _))) (h'.mk M0 hB' (.inr (Nat.le_refl _))) (Nat.le_trans hB M0.size) (Nat.le_trans hB' M0.size) hn0 hn').mono ?_
    rintro e w1 ⟨hv, m1⟩
    rw [HE.out] at hv
    subst hv
    have M1 := M0.trans m1
    replace k0 := m1.cellAt k0
    replace k1 := m1.cellAt k1
    replace j0 := m1.cellAt j0
    replace j1 := m1.cellAt j1
    replace j2 := m1.cellAt j2
    have g0 := World.block_lt_of_cell? _ _ k0
    have g1 := World.block_lt_of_cell? _ _ j0
    simp only at g0 g1
    go_wp2_with fail
    go_ret
    exact ⟨rfl, M1⟩

set_option maxRecDepth 100000 in
set_option maxHeartbeats 4000000 in
theorem implHasSeg (y0 y1 : Int) (a0 a1 a' : Option Addr) (n0 c0 n1 c1 m c' B B' : Nat) (z0 z1 : List TSegment) (ps : List THop) (w : World) (h0 : HasSegment w B a0 n0 z0) (h1 : HasSegment w B a1 n1 z1) (h' : HasHop w B' a' m ps) (hB : B ≤ w.heap.size) (hB' : B' ≤ w.heap.size) (hn0 : szSegment z0 n0 ≤ 1048576) (hn1 : szSegment z1 n1 ≤ 1048576) (hn' : m ≤ 1048576) :
    Calls Try.prog 20 #[.agg #[.slice a0 n0 c0, .slice a1 n1 c1], .agg #[.int .i64 y0, .int .i64 y1, .slice a' m c']] w fun e w' => e = .returned (.bool (anyTo (isSegT y0 y1 ps m) z0 n0 || anyTo (isSegT y0 y1 ps m) z1 n1)) ∧ Mk0 w w' := by
  have M0 := (Mk.alloc w (Obj.cells #[Value.slice a0 n0 c0, Value.slice a1 n1 c1] 29)).new (Obj.cells #[Value.int .i64 y0, Value.int .i64 y1, Value.slice a' m c'] 40)
  have k0 : ((w.alloc (Obj.cells #[Value.slice a0 n0 c0, Value.slice a1 n1 c1] 29)).alloc (Obj.cells #[Value.int .i64 y0, Value.int .i64 y1, Value.slice a' m c'] 40)).cell? ⟨w.heap.size, 0, none⟩ = some (.slice a0 n0 c0) := by simp [go_sem]
  have k1 : ((w.alloc (Obj.cells #[Value.slice a0 n0 c0, Value.slice a1 n1 c1] 29)).alloc (Obj.cells #[Value.int .i64 y0, Value.int .i64 y1, Value.slice a' m c'] 40)).cell? ⟨w.heap.size, 1, none⟩ = some (.slice a1 n1 c1) := by simp [go_sem]
  have j0 : ((w.alloc (Obj.cells #[Value.slice a0 n0 c0, Value.slice a1 n1 c1] 29)).alloc (Obj.cells #[Value.int .i64 y0, Value.int .i64 y1, Value.slice a' m c'] 40)).cell? ⟨w.heap.size + 1, 0, none⟩ = some (.int .i64 y0) := by simp [go_sem]
  have j1 : ((w.alloc (Obj.cells #[Value.slice a0 n0 c0, Value.slice a1 n1 c1] 29)).alloc (Obj.cells #[Value.int .i64 y0, Value.int .i64 y1, Value.slice a' m c'] 40)).cell? ⟨w.heap.size + 1, 1, none⟩ = some (.int .i64 y1) := by simp [go_sem]
  have j2 : ((w.alloc (Obj.cells #[Value.slice a0 n0 c0, Value.slice a1 n1 c1] 29)).alloc (Obj.cells #[Value.int .i64 y0, Value.int .i64 y1, Value.slice a' m c'] 40)).cell? ⟨w.heap.size + 1, 2, none⟩ = some (.slice a' m c') := by simp [go_sem]
  cases he : anyTo (isSegT y0 y1 ps m) z0 n0
  · have HE := Lib.hid he
    clear he
    go_enter Try.func20, Try.ntmps20
    go_wp2_with fail
    refine (hsContains y0 y1 a0 a' n0 c0 m c' (w.heap.size + 1) B B' z0 ps _ j0 j1 j2 (h0.mk M0 hB (.inr (Nat.le_refl _))) (h'.mk M0 hB' (.inr (Nat.le_refl _))) (Nat.le_trans hB M0.size) (Nat.le_trans hB' M0.size) hn0 hn').mono ?_
    rintro e w1 ⟨hv, m1⟩
    rw [HE.out] at hv
    subst hv
    have M1 := M0.trans m1
    replace k0 := m1.cellAt k0
    replace k1 := m1.cellAt k1
    replace j0 := m1.cellAt j0
    replace j1 := m1.cellAt j1
    replace j2 := m1.cellAt j2
    have g0 := World.block_lt_of_cell? _ _ k0
    have g1 := World.block_lt_of_cell? _ _ j0
    simp only at g0 g1
    go_wp2_with fail
    refine (hsContains y0 y1 a1 a' n1 c1 m c' (w.heap.size + 1) B B' z1 ps _ j0 j1 j2 (h1.mk M1 hB (.inr (Nat.le_refl _))) (h'.mk M1 hB' (.inr (Nat.le_refl _))) (Nat.le_trans hB M1.size) (Nat.le_trans hB' M1.size) hn1 hn').mono ?_
    rintro e w2 ⟨rfl, m2⟩
    go_wp2_with fail
    go_ret
    exact ⟨rfl, M1.trans m2⟩
  · have HE := Lib.hid he
    clear he
    go_enter Try.func20, Try.ntmps20
    go_wp2_with fail
    refine (hsContains y0 y1 a0 a' n0 c0 m c' (w.heap.size + 1) B B' z0 ps _ j0 j1 j2 (h0.mk M0 hB (.inr (Nat.le_refl _))) (h'.mk M0 hB' (.inr (Nat.le_refl _))) (Nat.le_trans hB M0.size) (Nat.le_trans hB' M0.size) hn0 hn').mono ?_
    rintro e w1 ⟨hv, m1⟩
    rw [HE.out] at hv
    subst hv
    have M1 := M0.trans m1
    replace k0 := m1.cellAt k0
    replace k1 := m1.cellAt k1
    replace j0 := m1.cellAt j0
    replace j1 := m1.cellAt j1
    replace j2 := m1.cellAt j2
    have g0 := World.block_lt_of_cell? _ _ k0
    have g1 := World.block_lt_of_cell? _ _ j0
    simp only at g0 g1
    go_wp2_with fail
    go_ret
    exact ⟨rfl, M1⟩

end Go.Proofs.Ytjjfhdcdcijinaa
