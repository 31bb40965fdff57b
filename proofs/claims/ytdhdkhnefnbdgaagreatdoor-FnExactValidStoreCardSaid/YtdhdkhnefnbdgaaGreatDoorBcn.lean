
/- HasBeacon, EqualBeacons, OriginASes of both sides. -/
import Derived.Test.YtdhdkhnefnbdgaaGreatDoorNBeacon
import Derived.Test.YtdhdkhnefnbdgaaGreatDoorEqSeg
import Derived.Test.YtdhdkhnefnbdgaaGreatDoorBetaAt
import Derived.Test.YtdhdkhnefnbdgaaGreatDoorSeen
import Derived.Test.YtdhdkhnefnbdgaaGreatDoorWs
import Derived.Test.YtdhdkhnefnbdgaaGreatDoorRow
import Derived.Laws.EntriesVeiled
namespace Go.Proofs.YtdhdkhnefnbdgaaGreatDoor
open Go.ChangeShapes Go.WideShapes Go.ChangeAt Go.RowKit
set_option linter.unusedVariables false
def anyB {α : Type} [Inhabited α] (p : α → Bool) (zs : List α) : Nat → Bool
  | 0 => false
  | k + 1 => anyB p zs k || p (zs.getD k default)
theorem anyB_hit {α : Type} [Inhabited α] {p : α → Bool} {zs : List α} {k : Nat} (h : p (zs.getD k default) = true) : ∀ n, k < n → anyB p zs n = true
  | 0, hk => absurd hk (by omega)
  | n + 1, hk => by
    rw [anyB]
    by_cases e : k = n
    · subst e; rw [h]; simp
    · rw [anyB_hit h n (by omega)]; rfl
theorem anyB_go {α : Type} [Inhabited α] {p : α → Bool} {zs : List α} {k : Nat} (h0 : anyB p zs k = false) (h : p (zs.getD k default) = false) : anyB p zs (k + 1) = false := by rw [anyB, h0, h]; rfl
def allB {α : Type} [Inhabited α] (f : α → α → Bool) (zs zs' : List α) : Nat → Bool
  | 0 => true
  | k + 1 => allB f zs zs' k && f (zs.getD k default) (zs'.getD k default)
theorem allB_stop {α : Type} [Inhabited α] {f : α → α → Bool} {zs zs' : List α} {k : Nat} (h : f (zs.getD k default) (zs'.getD k default) = false) : ∀ n, k < n → allB f zs zs' n = false
  | 0, hk => absurd hk (by omega)
  | n + 1, hk => by
    rw [allB]
    by_cases e : k = n
    · subst e; rw [h]; simp
    · rw [allB_stop h n (by omega)]; rfl
theorem allB_go {α : Type} [Inhabited α] {f : α → α → Bool} {zs zs' : List α} {k : Nat} (h0 : allB f zs zs' k = true) (h : f (zs.getD k default) (zs'.getD k default) = true) : allB f zs zs' (k + 1) = true := by rw [allB, h0, h]; rfl
def eqRows {α : Type} [Inhabited α] (f : α → α → Bool) (zs zs' : List α) (n n' : Nat) : Bool := if n = n' then allB f zs zs' n else false
def eqBcV (i x0 x1 j y0 y1 : Int) (zs zs' : List THop) (n n' : Nat) : Bool := (i == j) && eqSegB x0 x1 y0 y1 zs zs' n n'
def eqBc (x y : TBeacon) : Bool := eqBcV x.ing x.ts x.beta y.ing y.ts y.beta x.hops y.hops x.hops.length y.hops.length
def oAS (ps : List TBeacon) : Nat → Int
  | 0 => 0
  | k + 1 => addV (oAS ps k) (segFirst (ps.getD k default).hops (ps.getD k default).hops.length)
set_option maxRecDepth 100000 in
set_option maxHeartbeats 4000000 in
theorem specEqBc (i x0 x1 j y0 y1 : Int) (a a' : Option Addr) (n n' c c' B B' : Nat) (zs zs' : List THop) (w : World) (h : HasHop w B a n zs) (h' : HasHop w B' a' n' zs') (hB : B ≤ w.heap.size) (hB' : B' ≤ w.heap.size) (hn : n ≤ 1048576) (hn' : n' ≤ 1048576) :
    Calls Tryz.prog 69 #[.agg #[.int .i64 i, .int .i64 x0, .int .i64 x1, .slice a n c], .agg #[.int .i64 j, .int .i64 y0, .int .i64 y1, .slice a' n' c']] w fun e w' => e = .returned (.bool (eqBcV i x0 x1 j y0 y1 zs zs' n n')) ∧ Mk0 w w' := by
  have M0 := (Mk.alloc w (Obj.cells #[Value.int .i64 i, Value.int .i64 x0, Value.int .i64 x1, Value.slice a n c] 79)).new (Obj.cells #[Value.int .i64 j, Value.int .i64 y0, Value.int .i64 y1, Value.slice a' n' c'] 79)
  have u0 : ((w.alloc (Obj.cells #[Value.int .i64 i, Value.int .i64 x0, Value.int .i64 x1, Value.slice a n c] 79)).alloc (Obj.cells #[Value.int .i64 j, Value.int .i64 y0, Value.int .i64 y1, Value.slice a' n' c'] 79)).cell? ⟨w.heap.size, 0, none⟩ = some (.int .i64 i) := by simp [go_sem]
  have u1 : ((w.alloc (Obj.cells #[Value.int .i64 i, Value.int .i64 x0, Value.int .i64 x1, Value.slice a n c] 79)).alloc (Obj.cells #[Value.int .i64 j, Value.int .i64 y0, Value.int .i64 y1, Value.slice a' n' c'] 79)).cell? ⟨w.heap.size, 1, none⟩ = some (.int .i64 x0) := by simp [go_sem]
  have u2 : ((w.alloc (Obj.cells #[Value.int .i64 i, Value.int .i64 x0, Value.int .i64 x1, Value.slice a n c] 79)).alloc (Obj.cells #[Value.int .i64 j, Value.int .i64 y0, Value.int .i64 y1, Value.slice a' n' c'] 79)).cell? ⟨w.heap.size, 2, none⟩ = some (.int .i64 x1) := by simp [go_sem]
  have u3 : ((w.alloc (Obj.cells #[Value.int .i64 i, Value.int .i64 x0, Value.int .i64 x1, Value.slice a n c] 79)).alloc (Obj.cells #[Value.int .i64 j, Value.int .i64 y0, Value.int .i64 y1, Value.slice a' n' c'] 79)).cell? ⟨w.heap.size, 3, none⟩ = some (.slice a n c) := by simp [go_sem]
  have t0 : ((w.alloc (Obj.cells #[Value.int .i64 i, Value.int .i64 x0, Value.int .i64 x1, Value.slice a n c] 79)).alloc (Obj.cells #[Value.int .i64 j, Value.int .i64 y0, Value.int .i64 y1, Value.slice a' n' c'] 79)).cell? ⟨w.heap.size + 1, 0, none⟩ = some (.int .i64 j) := by simp [go_sem]
  have t1 : ((w.alloc (Obj.cells #[Value.int .i64 i, Value.int .i64 x0, Value.int .i64 x1, Value.slice a n c] 79)).alloc (Obj.cells #[Value.int .i64 j, Value.int .i64 y0, Value.int .i64 y1, Value.slice a' n' c'] 79)).cell? ⟨w.heap.size + 1, 1, none⟩ = some (.int .i64 y0) := by simp [go_sem]
  have t2 : ((w.alloc (Obj.cells #[Value.int .i64 i, Value.int .i64 x0, Value.int .i64 x1, Value.slice a n c] 79)).alloc (Obj.cells #[Value.int .i64 j, Value.int .i64 y0, Value.int .i64 y1, Value.slice a' n' c'] 79)).cell? ⟨w.heap.size + 1, 2, none⟩ = some (.int .i64 y1) := by simp [go_sem]
  have t3 : ((w.alloc (Obj.cells #[Value.int .i64 i, Value.int .i64 x0, Value.int .i64 x1, Value.slice a n c] 79)).alloc (Obj.cells #[Value.int .i64 j, Value.int .i64 y0, Value.int .i64 y1, Value.slice a' n' c'] 79)).cell? ⟨w.heap.size + 1, 3, none⟩ = some (.slice a' n' c') := by simp [go_sem]
  cases e : (i == j)
  · have E := Lib.hid e
    go_enter Tryz.func69, Tryz.ntmps69
    go_wp2_with fail
    go_ret
    exact ⟨retB (by unfold eqBcV; rw [E.out]; rfl), M0⟩
  · have E := Lib.hid e
    go_enter Tryz.func69, Tryz.ntmps69
    go_wp2_with fail
    refine (specEqSeg x0 x1 y0 y1 a a' n n' c c' B B' zs zs' _ (h.mk M0 hB (.inr (Nat.le_refl _))) (h'.mk M0 hB' (.inr (Nat.le_refl _))) (Nat.le_trans hB M0.size) (Nat.le_trans hB' M0.size) hn hn').mono ?_
    rintro e w2 ⟨rfl, m2⟩
    go_wp2_with fail
    go_ret
    exact ⟨retB (by unfold eqBcV; rw [E.out]; rfl), M0.trans m2⟩

set_option maxRecDepth 100000 in
set_option maxHeartbeats 4000000 in
theorem implEqBc (i x0 x1 j y0 y1 : Int) (a a' : Option Addr) (n n' c c' B B' : Nat) (zs zs' : List THop) (w : World) (h : HasHop w B a n zs) (h' : HasHop w B' a' n' zs') (hB : B ≤ w.heap.size) (hB' : B' ≤ w.heap.size) (hn : n ≤ 1048576) (hn' : n' ≤ 1048576) :
    Calls Tryz.prog 70 #[.agg #[.int .i64 i, .int .i64 x0, .int .i64 x1, .slice a n c], .agg #[.int .i64 j, .int .i64 y0, .int .i64 y1, .slice a' n' c']] w fun e w' => e = .returned (.bool (eqBcV i x0 x1 j y0 y1 zs zs' n n')) ∧ Mk0 w w' := by
  have M0 := (Mk.alloc w (Obj.cells #[Value.int .i64 i, Value.int .i64 x0, Value.int .i64 x1, Value.slice a n c] 79)).new (Obj.cells #[Value.int .i64 j, Value.int .i64 y0, Value.int .i64 y1, Value.slice a' n' c'] 79)
  have u0 : ((w.alloc (Obj.cells #[Value.int .i64 i, Value.int .i64 x0, Value.int .i64 x1, Value.slice a n c] 79)).alloc (Obj.cells #[Value.int .i64 j, Value.int .i64 y0, Value.int .i64 y1, Value.slice a' n' c'] 79)).cell? ⟨w.heap.size, 0, none⟩ = some (.int .i64 i) := by simp [go_sem]
  have u1 : ((w.alloc (Obj.cells #[Value.int .i64 i, Value.int .i64 x0, Value.int .i64 x1, Value.slice a n c] 79)).alloc (Obj.cells #[Value.int .i64 j, Value.int .i64 y0, Value.int .i64 y1, Value.slice a' n' c'] 79)).cell? ⟨w.heap.size, 1, none⟩ = some (.int .i64 x0) := by simp [go_sem]
  have u2 : ((w.alloc (Obj.cells #[Value.int .i64 i, Value.int .i64 x0, Value.int .i64 x1, Value.slice a n c] 79)).alloc (Obj.cells #[Value.int .i64 j, Value.int .i64 y0, Value.int .i64 y1, Value.slice a' n' c'] 79)).cell? ⟨w.heap.size, 2, none⟩ = some (.int .i64 x1) := by simp [go_sem]
  have u3 : ((w.alloc (Obj.cells #[Value.int .i64 i, Value.int .i64 x0, Value.int .i64 x1, Value.slice a n c] 79)).alloc (Obj.cells #[Value.int .i64 j, Value.int .i64 y0, Value.int .i64 y1, Value.slice a' n' c'] 79)).cell? ⟨w.heap.size, 3, none⟩ = some (.slice a n c) := by simp [go_sem]
  have t0 : ((w.alloc (Obj.cells #[Value.int .i64 i, Value.int .i64 x0, Value.int .i64 x1, Value.slice a n c] 79)).alloc (Obj.cells #[Value.int .i64 j, Value.int .i64 y0, Value.int .i64 y1, Value.slice a' n' c'] 79)).cell? ⟨w.heap.size + 1, 0, none⟩ = some (.int .i64 j) := by simp [go_sem]
  have t1 : ((w.alloc (Obj.cells #[Value.int .i64 i, Value.int .i64 x0, Value.int .i64 x1, Value.slice a n c] 79)).alloc (Obj.cells #[Value.int .i64 j, Value.int .i64 y0, Value.int .i64 y1, Value.slice a' n' c'] 79)).cell? ⟨w.heap.size + 1, 1, none⟩ = some (.int .i64 y0) := by simp [go_sem]
  have t2 : ((w.alloc (Obj.cells #[Value.int .i64 i, Value.int .i64 x0, Value.int .i64 x1, Value.slice a n c] 79)).alloc (Obj.cells #[Value.int .i64 j, Value.int .i64 y0, Value.int .i64 y1, Value.slice a' n' c'] 79)).cell? ⟨w.heap.size + 1, 2, none⟩ = some (.int .i64 y1) := by simp [go_sem]
  have t3 : ((w.alloc (Obj.cells #[Value.int .i64 i, Value.int .i64 x0, Value.int .i64 x1, Value.slice a n c] 79)).alloc (Obj.cells #[Value.int .i64 j, Value.int .i64 y0, Value.int .i64 y1, Value.slice a' n' c'] 79)).cell? ⟨w.heap.size + 1, 3, none⟩ = some (.slice a' n' c') := by simp [go_sem]
  cases e : (i == j)
  · have E := Lib.hid e
    go_enter Tryz.func70, Tryz.ntmps70
    go_wp2_with fail
    go_ret
    exact ⟨retB (by unfold eqBcV; rw [E.out]; rfl), M0⟩
  · have E := Lib.hid e
    go_enter Tryz.func70, Tryz.ntmps70
    go_wp2_with fail
    refine (implEqSeg x0 x1 y0 y1 a a' n n' c c' B B' zs zs' _ (h.mk M0 hB (.inr (Nat.le_refl _))) (h'.mk M0 hB' (.inr (Nat.le_refl _))) (Nat.le_trans hB M0.size) (Nat.le_trans hB' M0.size) hn hn').mono ?_
    rintro e w2 ⟨rfl, m2⟩
    go_wp2_with fail
    go_ret
    exact ⟨retB (by unfold eqBcV; rw [E.out]; rfl), M0.trans m2⟩

set_option maxRecDepth 100000 in
set_option maxHeartbeats 4000000 in
theorem specHasBc (j y0 y1 : Int) (a a' : Option Addr) (n c n' c' B B' : Nat) (zs : List TBeacon) (zs' : List THop) (w : World) (h : HasBeacon w B a n zs) (h' : HasHop w B' a' n' zs') (hB : B ≤ w.heap.size) (hB' : B' ≤ w.heap.size) (hn : szBeacon zs n ≤ 1048576) (hn' : n' ≤ 1048576) :
    Calls Tryz.prog 42 #[.slice a n c, .agg #[.int .i64 j, .int .i64 y0, .int .i64 y1, .slice a' n' c']] w fun e w' => e = .returned (.bool (anyB (fun x => eqBcV x.ing x.ts x.beta j y0 y1 x.hops zs' x.hops.length n') zs n)) ∧ Mk0 w w' := by
  have M0 := Mk.alloc w (Obj.cells #[Value.int .i64 j, Value.int .i64 y0, Value.int .i64 y1, Value.slice a' n' c'] 79)
  have hn0 : n ≤ 1048576 := Nat.le_trans (szBeacon_n zs n) hn
  have t0 : (w.alloc (Obj.cells #[Value.int .i64 j, Value.int .i64 y0, Value.int .i64 y1, Value.slice a' n' c'] 79)).cell? ⟨w.heap.size, 0, none⟩ = some (.int .i64 j) := by simp [go_sem]
  have t1 : (w.alloc (Obj.cells #[Value.int .i64 j, Value.int .i64 y0, Value.int .i64 y1, Value.slice a' n' c'] 79)).cell? ⟨w.heap.size, 1, none⟩ = some (.int .i64 y0) := by simp [go_sem]
  have t2 : (w.alloc (Obj.cells #[Value.int .i64 j, Value.int .i64 y0, Value.int .i64 y1, Value.slice a' n' c'] 79)).cell? ⟨w.heap.size, 2, none⟩ = some (.int .i64 y1) := by simp [go_sem]
  have t3 : (w.alloc (Obj.cells #[Value.int .i64 j, Value.int .i64 y0, Value.int .i64 y1, Value.slice a' n' c'] 79)).cell? ⟨w.heap.size, 3, none⟩ = some (.slice a' n' c') := by simp [go_sem]
  have IH := Lib.hid (fun (w' : World) (m : Mk0 (w.alloc (Obj.cells #[Value.int .i64 j, Value.int .i64 y0, Value.int .i64 y1, Value.slice a' n' c'] 79)) w') => And.intro (m.cellAt t0) (And.intro (m.cellAt t1) (And.intro (m.cellAt t2) (m.cellAt t3))))
  clear t0 t1 t2 t3
  go_enter Tryz.func42, Tryz.ntmps42
  go_wp2_with fail
  go_loopw [4, 5] (fun r i wr => r = .bool false ∧ ∃ k : Nat, k ≤ n ∧ i = .int .i64 k ∧ Hid (anyB (fun x => eqBcV x.ing x.ts x.beta j y0 y1 x.hops zs' x.hops.length n') zs k = false) ∧ Mk0 (w.alloc (Obj.cells #[Value.int .i64 j, Value.int .i64 y0, Value.int .i64 y1, Value.slice a' n' c'] 79)) wr) (fun _ i _ => n - (intOf i).toNat)
  case atStart => exact ⟨rfl, 0, Nat.zero_le _, rfl, rfl, Mk.refl _ _ _⟩
  case round =>
    obtain ⟨rfl, k, hk, rfl, hS, hM⟩ := hrel
    have hMW := M0.trans hM
    obtain ⟨q0, q1, q2, q3⟩ := IH.out _ hM
    by_cases hlt : k < n
    · obtain ⟨b, off, x, rfl, hb, hx, ah, nh, ch, d0, d1, d2, d3, r3, m3, t3, z3⟩ := HasBeacon.at _ _ _ _ _ _ (h.mk hMW hB (.inr (Nat.le_refl _))) hlt
      have hnh : nh ≤ 1048576 := by have HS := szBeacon_at zs hlt; unfold seBeacon at HS; rw [← hx.out, r3.1] at HS; omega
      have hB1 := Nat.le_trans hB hMW.size
      have hbr := World.block_lt_of_cell? _ _ d0
      simp only at hbr
      have i1 : (0 : Int) ≤ (k : Int) := by omega
      have i2 : (k : Int) < (n : Int) := by omega
      have hbq := World.block_lt_of_cell? _ _ q0
      simp only at hbq
      have HV := Lib.hid (show eqBcV x.ing x.ts x.beta j y0 y1 x.hops zs' nh n' = (fun (x : TBeacon) => eqBcV x.ing x.ts x.beta j y0 y1 x.hops zs' x.hops.length n') (zs.getD k default) by rw [← hx.out]; show _ = eqBcV x.ing x.ts x.beta j y0 y1 x.hops zs' x.hops.length n'; rw [r3.1])
      have hB1' := Nat.le_trans hB' hMW.size
      cases he : (fun (x : TBeacon) => eqBcV x.ing x.ts x.beta j y0 y1 x.hops zs' x.hops.length n') (zs.getD k default)
      · have HE := Lib.hid (anyB_go hS.out he)
        replace HV := Lib.hid (HV.out.trans he)
        clear he
        go_wp2_with fail
        refine wp_region_wk (fun w' => Mk0 wr w' ∧ w'.cell? ⟨b, off + k * 4, none⟩ = some (.int .i64 x.ing) ∧ w'.cell? ⟨b, off + k * 4 + 1, none⟩ = some (.int .i64 x.ts) ∧ w'.cell? ⟨b, off + k * 4 + 2, none⟩ = some (.int .i64 x.beta) ∧ w'.cell? ⟨b, off + k * 4 + 3, none⟩ = some (.slice ah nh ch) ∧ w'.cell? ⟨w.heap.size, 0, none⟩ = some (.int .i64 j) ∧ w'.cell? ⟨w.heap.size, 1, none⟩ = some (.int .i64 y0) ∧ w'.cell? ⟨w.heap.size, 2, none⟩ = some (.int .i64 y1) ∧ w'.cell? ⟨w.heap.size, 3, none⟩ = some (.slice a' n' c')) (by kernel_rfl) (by kernel_rfl) (⟨Mk.drew1 _, d0, d1, d2, d3, q0, q1, q2, q3⟩) ?_
        change Wk _ _ _ _ 6 0 _
        first | (refine Wk.skip (m := 5) (k := 0) rfl (by rfl) ?_) | (refine Wk.step (m := 5) (k := 0) (v := _) rfl (by rfl) (fun wv hS => by obtain ⟨s0, s1, s2, s3, s4, s5, s6, s7, s8⟩ := hS; go_simp; try with_reducible rfl) ?_)
        try simp only [Act.put, List.getElem_toArray, List.getElem_cons_zero, List.setIfInBounds_toArray, List.set_cons_zero, List.set_cons_succ]
        first | (refine Wk.skip (m := 4) (k := 1) rfl (by rfl) ?_) | (refine Wk.step (m := 4) (k := 1) (v := _) rfl (by rfl) (fun wv hS => by obtain ⟨s0, s1, s2, s3, s4, s5, s6, s7, s8⟩ := hS; go_simp; try with_reducible rfl) ?_)
        try simp only [Act.put, List.getElem_toArray, List.getElem_cons_succ, List.getElem_cons_zero, List.setIfInBounds_toArray, List.set_cons_zero, List.set_cons_succ]
        first | (refine Wk.skip (m := 3) (k := 2) rfl (by rfl) ?_) | (refine Wk.step (m := 3) (k := 2) (v := _) rfl (by rfl) (fun wv hS => by obtain ⟨s0, s1, s2, s3, s4, s5, s6, s7, s8⟩ := hS; go_simp; try with_reducible rfl) ?_)
        try simp only [Act.put, List.getElem_toArray, List.getElem_cons_succ, List.getElem_cons_zero, List.setIfInBounds_toArray, List.set_cons_zero, List.set_cons_succ]
        first | (refine Wk.skip (m := 2) (k := 3) rfl (by rfl) ?_) | (refine Wk.step (m := 2) (k := 3) (v := _) rfl (by rfl) (fun wv hS => by obtain ⟨s0, s1, s2, s3, s4, s5, s6, s7, s8⟩ := hS; go_simp; try with_reducible rfl) ?_)
        try simp only [Act.put, List.getElem_toArray, List.getElem_cons_succ, List.getElem_cons_zero, List.setIfInBounds_toArray, List.set_cons_zero, List.set_cons_succ]
        first | (refine Wk.skip (m := 1) (k := 4) rfl (by rfl) ?_) | (refine Wk.step (m := 1) (k := 4) (v := _) rfl (by rfl) (fun wv hS => by obtain ⟨s0, s1, s2, s3, s4, s5, s6, s7, s8⟩ := hS; go_simp; try with_reducible rfl) ?_)
        try simp only [Act.put, List.getElem_toArray, List.getElem_cons_succ, List.getElem_cons_zero, List.setIfInBounds_toArray, List.set_cons_zero, List.set_cons_succ]
        refine Wk.call (m := 0) (k := 5) (v := .bool false) _ _ rfl (by rfl) (fun wv hS => by obtain ⟨s0, s1, s2, s3, s4, s5, s6, s7, s8⟩ := hS; go_simp; first | done | exact ⟨rfl, rfl⟩ | with_reducible rfl) (fun wv hS => ?_) ?_; · obtain ⟨s0, s1, s2, s3, s4, s5, s6, s7, s8⟩ := hS; refine (specEqBc x.ing x.ts x.beta j y0 y1 ah a' nh n' ch c' B B' x.hops zs' wv (r3.mk s0 hB1 (.inr (Nat.le_refl _))) (h'.mk (hMW.trans s0) hB' (.inr (Nat.le_refl _))) (Nat.le_trans hB1 s0.size) (Nat.le_trans hB1' s0.size) hnh hn').mono ?_; rintro e w' ⟨he, mm⟩; exact ⟨by rw [he, HV.out], s0.trans mm, mm.cellAt s1, mm.cellAt s2, mm.cellAt s3, mm.cellAt s4, mm.cellAt s5, mm.cellAt s6, mm.cellAt s7, mm.cellAt s8⟩
        try simp only [Act.put, List.getElem_toArray, List.getElem_cons_succ, List.getElem_cons_zero, List.setIfInBounds_toArray, List.set_cons_zero, List.set_cons_succ]
        refine Wk.done fun wE hE => ?_
        clear d0 d1 d2 d3 q0 q1 q2 q3
        obtain ⟨mE, d0, d1, d2, d3, q0, q1, q2, q3⟩ := hE
        go_wp2_with fail
        go_roundw
        case rel => exact ⟨rfl, k + 1, by omega, by go_num, HE.out, hM.trans mE⟩
        case measure => simp [intOf]; omega
      · have HE := Lib.hid (show anyB (fun x => eqBcV x.ing x.ts x.beta j y0 y1 x.hops zs' x.hops.length n') zs n = true from anyB_hit he n hlt)
        replace HV := Lib.hid (HV.out.trans he)
        clear he
        go_wp2_with fail
        refine wp_region_wk (fun w' => Mk0 wr w' ∧ w'.cell? ⟨b, off + k * 4, none⟩ = some (.int .i64 x.ing) ∧ w'.cell? ⟨b, off + k * 4 + 1, none⟩ = some (.int .i64 x.ts) ∧ w'.cell? ⟨b, off + k * 4 + 2, none⟩ = some (.int .i64 x.beta) ∧ w'.cell? ⟨b, off + k * 4 + 3, none⟩ = some (.slice ah nh ch) ∧ w'.cell? ⟨w.heap.size, 0, none⟩ = some (.int .i64 j) ∧ w'.cell? ⟨w.heap.size, 1, none⟩ = some (.int .i64 y0) ∧ w'.cell? ⟨w.heap.size, 2, none⟩ = some (.int .i64 y1) ∧ w'.cell? ⟨w.heap.size, 3, none⟩ = some (.slice a' n' c')) (by kernel_rfl) (by kernel_rfl) (⟨Mk.drew1 _, d0, d1, d2, d3, q0, q1, q2, q3⟩) ?_
        change Wk _ _ _ _ 6 0 _
        first | (refine Wk.skip (m := 5) (k := 0) rfl (by rfl) ?_) | (refine Wk.step (m := 5) (k := 0) (v := _) rfl (by rfl) (fun wv hS => by obtain ⟨s0, s1, s2, s3, s4, s5, s6, s7, s8⟩ := hS; go_simp; try with_reducible rfl) ?_)
        try simp only [Act.put, List.getElem_toArray, List.getElem_cons_zero, List.setIfInBounds_toArray, List.set_cons_zero, List.set_cons_succ]
        first | (refine Wk.skip (m := 4) (k := 1) rfl (by rfl) ?_) | (refine Wk.step (m := 4) (k := 1) (v := _) rfl (by rfl) (fun wv hS => by obtain ⟨s0, s1, s2, s3, s4, s5, s6, s7, s8⟩ := hS; go_simp; try with_reducible rfl) ?_)
        try simp only [Act.put, List.getElem_toArray, List.getElem_cons_succ, List.getElem_cons_zero, List.setIfInBounds_toArray, List.set_cons_zero, List.set_cons_succ]
        first | (refine Wk.skip (m := 3) (k := 2) rfl (by rfl) ?_) | (refine Wk.step (m := 3) (k := 2) (v := _) rfl (by rfl) (fun wv hS => by obtain ⟨s0, s1, s2, s3, s4, s5, s6, s7, s8⟩ := hS; go_simp; try with_reducible rfl) ?_)
        try simp only [Act.put, List.getElem_toArray, List.getElem_cons_succ, List.getElem_cons_zero, List.setIfInBounds_toArray, List.set_cons_zero, List.set_cons_succ]
        first | (refine Wk.skip (m := 2) (k := 3) rfl (by rfl) ?_) | (refine Wk.step (m := 2) (k := 3) (v := _) rfl (by rfl) (fun wv hS => by obtain ⟨s0, s1, s2, s3, s4, s5, s6, s7, s8⟩ := hS; go_simp; try with_reducible rfl) ?_)
        try simp only [Act.put, List.getElem_toArray, List.getElem_cons_succ, List.getElem_cons_zero, List.setIfInBounds_toArray, List.set_cons_zero, List.set_cons_succ]
        first | (refine Wk.skip (m := 1) (k := 4) rfl (by rfl) ?_) | (refine Wk.step (m := 1) (k := 4) (v := _) rfl (by rfl) (fun wv hS => by obtain ⟨s0, s1, s2, s3, s4, s5, s6, s7, s8⟩ := hS; go_simp; try with_reducible rfl) ?_)
        try simp only [Act.put, List.getElem_toArray, List.getElem_cons_succ, List.getElem_cons_zero, List.setIfInBounds_toArray, List.set_cons_zero, List.set_cons_succ]
        refine Wk.call (m := 0) (k := 5) (v := .bool true) _ _ rfl (by rfl) (fun wv hS => by obtain ⟨s0, s1, s2, s3, s4, s5, s6, s7, s8⟩ := hS; go_simp; first | done | exact ⟨rfl, rfl⟩ | with_reducible rfl) (fun wv hS => ?_) ?_; · obtain ⟨s0, s1, s2, s3, s4, s5, s6, s7, s8⟩ := hS; refine (specEqBc x.ing x.ts x.beta j y0 y1 ah a' nh n' ch c' B B' x.hops zs' wv (r3.mk s0 hB1 (.inr (Nat.le_refl _))) (h'.mk (hMW.trans s0) hB' (.inr (Nat.le_refl _))) (Nat.le_trans hB1 s0.size) (Nat.le_trans hB1' s0.size) hnh hn').mono ?_; rintro e w' ⟨he, mm⟩; exact ⟨by rw [he, HV.out], s0.trans mm, mm.cellAt s1, mm.cellAt s2, mm.cellAt s3, mm.cellAt s4, mm.cellAt s5, mm.cellAt s6, mm.cellAt s7, mm.cellAt s8⟩
        try simp only [Act.put, List.getElem_toArray, List.getElem_cons_succ, List.getElem_cons_zero, List.setIfInBounds_toArray, List.set_cons_zero, List.set_cons_succ]
        refine Wk.done fun wE hE => ?_
        clear d0 d1 d2 d3 q0 q1 q2 q3
        obtain ⟨mE, d0, d1, d2, d3, q0, q1, q2, q3⟩ := hE
        go_wp2_with fail
        go_ret
        exact ⟨retB HE.out.symm, M0.trans (hM.trans mE)⟩
    · obtain rfl : k = n := by omega
      go_wp2_with fail
      go_ret
      exact ⟨retB hS.out.symm, hMW⟩

set_option maxRecDepth 100000 in
set_option maxHeartbeats 4000000 in
theorem implHasBc (j y0 y1 : Int) (a a' : Option Addr) (n c n' c' B B' : Nat) (zs : List TBeacon) (zs' : List THop) (w : World) (h : HasBeacon w B a n zs) (h' : HasHop w B' a' n' zs') (hB : B ≤ w.heap.size) (hB' : B' ≤ w.heap.size) (hn : szBeacon zs n ≤ 1048576) (hn' : n' ≤ 1048576) :
    Calls Tryz.prog 44 #[.slice a n c, .agg #[.int .i64 j, .int .i64 y0, .int .i64 y1, .slice a' n' c']] w fun e w' => e = .returned (.bool (anyB (fun x => eqBcV x.ing x.ts x.beta j y0 y1 x.hops zs' x.hops.length n') zs n)) ∧ Mk0 w w' := by
  have M0 := Mk.alloc w (Obj.cells #[Value.int .i64 j, Value.int .i64 y0, Value.int .i64 y1, Value.slice a' n' c'] 79)
  have hn0 : n ≤ 1048576 := Nat.le_trans (szBeacon_n zs n) hn
  have t0 : (w.alloc (Obj.cells #[Value.int .i64 j, Value.int .i64 y0, Value.int .i64 y1, Value.slice a' n' c'] 79)).cell? ⟨w.heap.size, 0, none⟩ = some (.int .i64 j) := by simp [go_sem]
  have t1 : (w.alloc (Obj.cells #[Value.int .i64 j, Value.int .i64 y0, Value.int .i64 y1, Value.slice a' n' c'] 79)).cell? ⟨w.heap.size, 1, none⟩ = some (.int .i64 y0) := by simp [go_sem]
  have t2 : (w.alloc (Obj.cells #[Value.int .i64 j, Value.int .i64 y0, Value.int .i64 y1, Value.slice a' n' c'] 79)).cell? ⟨w.heap.size, 2, none⟩ = some (.int .i64 y1) := by simp [go_sem]
  have t3 : (w.alloc (Obj.cells #[Value.int .i64 j, Value.int .i64 y0, Value.int .i64 y1, Value.slice a' n' c'] 79)).cell? ⟨w.heap.size, 3, none⟩ = some (.slice a' n' c') := by simp [go_sem]
  have IH := Lib.hid (fun (w' : World) (m : Mk0 (w.alloc (Obj.cells #[Value.int .i64 j, Value.int .i64 y0, Value.int .i64 y1, Value.slice a' n' c'] 79)) w') => And.intro (m.cellAt t0) (And.intro (m.cellAt t1) (And.intro (m.cellAt t2) (m.cellAt t3))))
  clear t0 t1 t2 t3
  go_enter Tryz.func44, Tryz.ntmps44
  go_wp2_with fail
  go_loopw [4, 9] (fun r i wr => r = .bool false ∧ ∃ k : Nat, k ≤ n ∧ i = .int .i64 k ∧ Hid (anyB (fun x => eqBcV x.ing x.ts x.beta j y0 y1 x.hops zs' x.hops.length n') zs k = false) ∧ Mk0 (w.alloc (Obj.cells #[Value.int .i64 j, Value.int .i64 y0, Value.int .i64 y1, Value.slice a' n' c'] 79)) wr) (fun _ i _ => n - (intOf i).toNat)
  case atStart => exact ⟨rfl, 0, Nat.zero_le _, rfl, rfl, Mk.refl _ _ _⟩
  case round =>
    obtain ⟨rfl, k, hk, rfl, hS, hM⟩ := hrel
    have hMW := M0.trans hM
    obtain ⟨q0, q1, q2, q3⟩ := IH.out _ hM
    by_cases hlt : k < n
    · obtain ⟨b, off, x, rfl, hb, hx, ah, nh, ch, d0, d1, d2, d3, r3, m3, t3, z3⟩ := HasBeacon.at _ _ _ _ _ _ (h.mk hMW hB (.inr (Nat.le_refl _))) hlt
      have hnh : nh ≤ 1048576 := by have HS := szBeacon_at zs hlt; unfold seBeacon at HS; rw [← hx.out, r3.1] at HS; omega
      have hB1 := Nat.le_trans hB hMW.size
      have hbr := World.block_lt_of_cell? _ _ d0
      simp only at hbr
      have i1 : (0 : Int) ≤ (k : Int) := by omega
      have i2 : (k : Int) < (n : Int) := by omega
      have hbq := World.block_lt_of_cell? _ _ q0
      simp only at hbq
      have HV := Lib.hid (show eqBcV x.ing x.ts x.beta j y0 y1 x.hops zs' nh n' = (fun (x : TBeacon) => eqBcV x.ing x.ts x.beta j y0 y1 x.hops zs' x.hops.length n') (zs.getD k default) by rw [← hx.out]; show _ = eqBcV x.ing x.ts x.beta j y0 y1 x.hops zs' x.hops.length n'; rw [r3.1])
      have hB1' := Nat.le_trans hB' hMW.size
      cases he : (fun (x : TBeacon) => eqBcV x.ing x.ts x.beta j y0 y1 x.hops zs' x.hops.length n') (zs.getD k default)
      · have HE := Lib.hid (anyB_go hS.out he)
        replace HV := Lib.hid (HV.out.trans he)
        clear he
        go_wp2_with fail
        have MB := Mk.alloc wr (Obj.cells #[Value.int .i64 x.ing, Value.int .i64 x.ts, Value.int .i64 x.beta, Value.slice ah nh ch] 79)
        refine (implEqBc x.ing x.ts x.beta j y0 y1 ah a' nh n' ch c' B B' x.hops zs' _ (r3.mk MB hB1 (.inr (Nat.le_refl _))) (h'.mk (hMW.trans MB) hB' (.inr (Nat.le_refl _))) (Nat.le_trans hB1 MB.size) (Nat.le_trans hB1' MB.size) hnh hn').mono ?_
        rintro e w2 ⟨hv, m2⟩
        rw [HV.out] at hv
        subst hv
        clear d0 d1 d2 d3 q0 q1 q2 q3
        go_wp2_with fail
        go_roundw
        case rel => exact ⟨rfl, k + 1, by omega, by go_num, HE.out, hM.trans (MB.trans m2)⟩
        case measure => simp [intOf]; omega
      · have HE := Lib.hid (show anyB (fun x => eqBcV x.ing x.ts x.beta j y0 y1 x.hops zs' x.hops.length n') zs n = true from anyB_hit he n hlt)
        replace HV := Lib.hid (HV.out.trans he)
        clear he
        go_wp2_with fail
        have MB := Mk.alloc wr (Obj.cells #[Value.int .i64 x.ing, Value.int .i64 x.ts, Value.int .i64 x.beta, Value.slice ah nh ch] 79)
        refine (implEqBc x.ing x.ts x.beta j y0 y1 ah a' nh n' ch c' B B' x.hops zs' _ (r3.mk MB hB1 (.inr (Nat.le_refl _))) (h'.mk (hMW.trans MB) hB' (.inr (Nat.le_refl _))) (Nat.le_trans hB1 MB.size) (Nat.le_trans hB1' MB.size) hnh hn').mono ?_
        rintro e w2 ⟨hv, m2⟩
        rw [HV.out] at hv
        subst hv
        clear d0 d1 d2 d3 q0 q1 q2 q3
        go_wp2_with fail
        go_ret
        exact ⟨retB HE.out.symm, M0.trans (hM.trans (MB.trans m2))⟩
    · obtain rfl : k = n := by omega
      go_wp2_with fail
      go_ret
      exact ⟨retB hS.out.symm, hMW⟩

end Go.Proofs.YtdhdkhnefnbdgaaGreatDoor
