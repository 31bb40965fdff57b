
/- Allows of both sides. -/
import Derived.Test.YtbbcpdgdihdmiaaGreatDoorBetaAt
import Derived.Test.YtbbcpdgdihdmiaaGreatDoorSPolicy
import Derived.Test.YtbbcpdgdihdmiaaGreatDoorSeen
import Derived.Test.YtbbcpdgdihdmiaaGreatDoorWs
import Derived.Laws.EntriesVeiled
namespace Go.Proofs.YtbbcpdgdihdmiaaGreatDoor
open Go.ChangeShapes Go.WideShapes Go.ChangeAt Go.RowKit
set_option linter.unusedVariables false
def denyI (d : Int) (zs : List THop) (j : Nat) : Bool := !hasB d (zs.getD j default).nd
def roomB (x : TPolicy) (n : Nat) : Bool := decide ((n : Int) < x.len)
def polB (x : TPolicy) (zs : List THop) (n : Nat) (out : Int) : Bool := roomB x n && (allN (denyI x.denied zs) n && !hasB x.closed out)
theorem deny_at {d : Int} {zs : List THop} {n k : Nat} {z : Int} {b : Bool} (hk : k < n) (hz : z = (colN THop.nd zs n).getD k 0) (h : hasB d z = b) : denyI d zs k = !b := by
  unfold denyI
  rw [← colN_get THop.nd zs n k hk, ← hz, h]
set_option maxRecDepth 100000 in
set_option maxHeartbeats 4000000 in
theorem specAllows (x : TPolicy) (x0 x1 : Int) (a : Option Addr) (n c B : Nat) (zs : List THop) (out : Int) (w : World) (h : HasHop w B a n zs) (hB : B ≤ w.heap.size) (hn : n ≤ 1048576) :
    Calls Tryz.prog 37 #[.agg #[.int .i64 x.len, .int .i64 x.denied, .int .i64 x.closed, .int .i64 x.life], .agg #[.int .i64 x0, .int .i64 x1, .slice a n c], .int .i64 out] w fun e w' => e = .returned (.bool (polB x zs n out)) ∧ Mk0 w w' := by
  have M0 := (Mk.alloc w (Obj.cells #[Value.int .i64 x.len, Value.int .i64 x.denied, Value.int .i64 x.closed, Value.int .i64 x.life] 39)).new (Obj.cells #[Value.int .i64 x0, Value.int .i64 x1, Value.slice a n c] 31)
  have p0 : ((w.alloc (Obj.cells #[Value.int .i64 x.len, Value.int .i64 x.denied, Value.int .i64 x.closed, Value.int .i64 x.life] 39)).alloc (Obj.cells #[Value.int .i64 x0, Value.int .i64 x1, Value.slice a n c] 31)).cell? ⟨w.heap.size, 0, none⟩ = some (.int .i64 x.len) := by simp [go_sem]
  have p1 : ((w.alloc (Obj.cells #[Value.int .i64 x.len, Value.int .i64 x.denied, Value.int .i64 x.closed, Value.int .i64 x.life] 39)).alloc (Obj.cells #[Value.int .i64 x0, Value.int .i64 x1, Value.slice a n c] 31)).cell? ⟨w.heap.size, 1, none⟩ = some (.int .i64 x.denied) := by simp [go_sem]
  have p2 : ((w.alloc (Obj.cells #[Value.int .i64 x.len, Value.int .i64 x.denied, Value.int .i64 x.closed, Value.int .i64 x.life] 39)).alloc (Obj.cells #[Value.int .i64 x0, Value.int .i64 x1, Value.slice a n c] 31)).cell? ⟨w.heap.size, 2, none⟩ = some (.int .i64 x.closed) := by simp [go_sem]
  have p3 : ((w.alloc (Obj.cells #[Value.int .i64 x.len, Value.int .i64 x.denied, Value.int .i64 x.closed, Value.int .i64 x.life] 39)).alloc (Obj.cells #[Value.int .i64 x0, Value.int .i64 x1, Value.slice a n c] 31)).cell? ⟨w.heap.size, 3, none⟩ = some (.int .i64 x.life) := by simp [go_sem]
  have q0 : ((w.alloc (Obj.cells #[Value.int .i64 x.len, Value.int .i64 x.denied, Value.int .i64 x.closed, Value.int .i64 x.life] 39)).alloc (Obj.cells #[Value.int .i64 x0, Value.int .i64 x1, Value.slice a n c] 31)).cell? ⟨w.heap.size + 1, 0, none⟩ = some (.int .i64 x0) := by simp [go_sem]
  have q1 : ((w.alloc (Obj.cells #[Value.int .i64 x.len, Value.int .i64 x.denied, Value.int .i64 x.closed, Value.int .i64 x.life] 39)).alloc (Obj.cells #[Value.int .i64 x0, Value.int .i64 x1, Value.slice a n c] 31)).cell? ⟨w.heap.size + 1, 1, none⟩ = some (.int .i64 x1) := by simp [go_sem]
  have q2 : ((w.alloc (Obj.cells #[Value.int .i64 x.len, Value.int .i64 x.denied, Value.int .i64 x.closed, Value.int .i64 x.life] 39)).alloc (Obj.cells #[Value.int .i64 x0, Value.int .i64 x1, Value.slice a n c] 31)).cell? ⟨w.heap.size + 1, 2, none⟩ = some (.slice a n c) := by simp [go_sem]
  go_enter Tryz.func37, Tryz.ntmps37
  go_wp2_with fail
  refine (specASes x0 x1 a n c B zs _ (h.mk M0 hB (.inr (Nat.le_refl _))) (Nat.le_trans hB M0.size) hn).mono ?_
  rintro e w2 ⟨A, N, cc, rfl, hcc, oo, bb⟩
  have m2 := Mk.of_below bb
  have hNn : N = n := by have h1 := oo.has.1; have h2 := colN_len THop.nd zs n; omega
  subst hNn
  have M2 := M0.trans m2
  replace p0 := m2.cellAt p0
  replace p1 := m2.cellAt p1
  replace p2 := m2.cellAt p2
  replace p3 := m2.cellAt p3
  replace q0 := m2.cellAt q0
  replace q1 := m2.cellAt q1
  replace q2 := m2.cellAt q2
  have HO := oo.has
  clear oo bb hcc
  go_wp2_with fail
  go_loopw [6, 8] (fun r i wr => r = .bool false ∧ ∃ k : Nat, k ≤ N ∧ i = .int .i64 k ∧ Hid (allN (denyI x.denied zs) k = true) ∧ Mk0 w2 wr) (fun _ i _ => N - (intOf i).toNat)
  case atStart => exact ⟨rfl, 0, Nat.zero_le _, rfl, rfl, Mk.refl _ _ _⟩
  case round =>
    obtain ⟨rfl, k, hk, rfl, hS, hM⟩ := hrel
    have M3 := M2.trans hM
    replace p0 := hM.cellAt p0
    replace p1 := hM.cellAt p1
    replace p2 := hM.cellAt p2
    replace p3 := hM.cellAt p3
    replace q0 := hM.cellAt q0
    replace q1 := hM.cellAt q1
    replace q2 := hM.cellAt q2
    by_cases hlt : k < N
    · obtain ⟨b, off, z, rfl, hb, hz, c0⟩ := Has.at_ (hasR_int.1 ((hasR_int.2 HO).mk hM (Nat.le_refl _) (.inr (Nat.le_refl _)))) hlt
      have i1 : (0 : Int) ≤ (k : Int) := by omega
      have i2 : (k : Int) < (N : Int) := by omega
      cases hd : hasB x.denied z
      · have HD := Lib.hid hd
        have HE := Lib.hid (allN_go hS.out (deny_at hlt hz.out hd))
        clear hd
        go_wp2_with fail
        refine wp_region_wk (fun w' => Mk0 wr w' ∧ w'.cell? ⟨w.heap.size, 0, none⟩ = some (.int .i64 x.len) ∧ w'.cell? ⟨w.heap.size, 1, none⟩ = some (.int .i64 x.denied) ∧ w'.cell? ⟨w.heap.size, 2, none⟩ = some (.int .i64 x.closed) ∧ w'.cell? ⟨w.heap.size, 3, none⟩ = some (.int .i64 x.life) ∧ w'.cell? ⟨w.heap.size + 1, 0, none⟩ = some (.int .i64 x0) ∧ w'.cell? ⟨w.heap.size + 1, 1, none⟩ = some (.int .i64 x1) ∧ w'.cell? ⟨w.heap.size + 1, 2, none⟩ = some (.slice a N c) ∧ w'.cell? ⟨b, off + k, none⟩ = some (.int .i64 z)) (by kernel_rfl) (by kernel_rfl) (⟨Mk.drew1 _, p0, p1, p2, p3, q0, q1, q2, c0⟩) ?_
        change Wk _ _ _ _ 7 0 _
        first | (refine Wk.skip (m := 6) (k := 0) rfl (by rfl) ?_) | (refine Wk.step (m := 6) (k := 0) (v := _) rfl (by rfl) (fun wv hS => by obtain ⟨s0, s1, s2, s3, s4, s5, s6, s7, s8⟩ := hS; go_simp; try with_reducible rfl) ?_)
        try simp only [Act.put, List.getElem_toArray, List.getElem_cons_zero, List.setIfInBounds_toArray, List.set_cons_zero, List.set_cons_succ]
        first | (refine Wk.skip (m := 5) (k := 1) rfl (by rfl) ?_) | (refine Wk.step (m := 5) (k := 1) (v := _) rfl (by rfl) (fun wv hS => by obtain ⟨s0, s1, s2, s3, s4, s5, s6, s7, s8⟩ := hS; go_simp; try with_reducible rfl) ?_)
        try simp only [Act.put, List.getElem_toArray, List.getElem_cons_succ, List.getElem_cons_zero, List.setIfInBounds_toArray, List.set_cons_zero, List.set_cons_succ]
        first | (refine Wk.skip (m := 4) (k := 2) rfl (by rfl) ?_) | (refine Wk.step (m := 4) (k := 2) (v := _) rfl (by rfl) (fun wv hS => by obtain ⟨s0, s1, s2, s3, s4, s5, s6, s7, s8⟩ := hS; go_simp; try with_reducible rfl) ?_)
        try simp only [Act.put, List.getElem_toArray, List.getElem_cons_succ, List.getElem_cons_zero, List.setIfInBounds_toArray, List.set_cons_zero, List.set_cons_succ]
        first | (refine Wk.skip (m := 3) (k := 3) rfl (by rfl) ?_) | (refine Wk.step (m := 3) (k := 3) (v := _) rfl (by rfl) (fun wv hS => by obtain ⟨s0, s1, s2, s3, s4, s5, s6, s7, s8⟩ := hS; go_simp; try with_reducible rfl) ?_)
        try simp only [Act.put, List.getElem_toArray, List.getElem_cons_succ, List.getElem_cons_zero, List.setIfInBounds_toArray, List.set_cons_zero, List.set_cons_succ]
        first | (refine Wk.skip (m := 2) (k := 4) rfl (by rfl) ?_) | (refine Wk.step (m := 2) (k := 4) (v := _) rfl (by rfl) (fun wv hS => by obtain ⟨s0, s1, s2, s3, s4, s5, s6, s7, s8⟩ := hS; go_simp; try with_reducible rfl) ?_)
        try simp only [Act.put, List.getElem_toArray, List.getElem_cons_succ, List.getElem_cons_zero, List.setIfInBounds_toArray, List.set_cons_zero, List.set_cons_succ]
        first | (refine Wk.skip (m := 1) (k := 5) rfl (by rfl) ?_) | (refine Wk.step (m := 1) (k := 5) (v := _) rfl (by rfl) (fun wv hS => by obtain ⟨s0, s1, s2, s3, s4, s5, s6, s7, s8⟩ := hS; go_simp; try with_reducible rfl) ?_)
        try simp only [Act.put, List.getElem_toArray, List.getElem_cons_succ, List.getElem_cons_zero, List.setIfInBounds_toArray, List.set_cons_zero, List.set_cons_succ]
        refine Wk.call (m := 0) (k := 6) (v := .bool false) _ _ rfl (by rfl) (fun wv hS => by obtain ⟨s0, s1, s2, s3, s4, s5, s6, s7, s8⟩ := hS; go_simp; first | done | exact ⟨rfl, rfl⟩ | with_reducible rfl) (fun wv hS => ?_) ?_; · obtain ⟨s0, s1, s2, s3, s4, s5, s6, s7, s8⟩ := hS; refine (specContains x.denied z wv).mono ?_; rintro e w' ⟨he, rfl⟩; exact ⟨by rw [he, HD.out], ⟨s0, s1, s2, s3, s4, s5, s6, s7, s8⟩⟩
        try simp only [Act.put, List.getElem_toArray, List.getElem_cons_succ, List.getElem_cons_zero, List.setIfInBounds_toArray, List.set_cons_zero, List.set_cons_succ]
        refine Wk.done fun wE hE => ?_
        obtain ⟨mE, p0, p1, p2, p3, q0, q1, q2, c0⟩ := hE
        go_wp2_with fail
        go_roundw
        case rel => exact ⟨rfl, k + 1, by omega, by go_num, HE.out, hM.trans mE⟩
        case measure => simp [intOf]; omega
      · have HD := Lib.hid hd
        have HE := Lib.hid (show polB x zs N out = false by unfold polB; rw [allN_stop (deny_at hlt hz.out hd) hlt]; simp)
        clear hd
        go_wp2_with fail
        refine wp_region_wk (fun w' => Mk0 wr w' ∧ w'.cell? ⟨w.heap.size, 0, none⟩ = some (.int .i64 x.len) ∧ w'.cell? ⟨w.heap.size, 1, none⟩ = some (.int .i64 x.denied) ∧ w'.cell? ⟨w.heap.size, 2, none⟩ = some (.int .i64 x.closed) ∧ w'.cell? ⟨w.heap.size, 3, none⟩ = some (.int .i64 x.life) ∧ w'.cell? ⟨w.heap.size + 1, 0, none⟩ = some (.int .i64 x0) ∧ w'.cell? ⟨w.heap.size + 1, 1, none⟩ = some (.int .i64 x1) ∧ w'.cell? ⟨w.heap.size + 1, 2, none⟩ = some (.slice a N c) ∧ w'.cell? ⟨b, off + k, none⟩ = some (.int .i64 z)) (by kernel_rfl) (by kernel_rfl) (⟨Mk.drew1 _, p0, p1, p2, p3, q0, q1, q2, c0⟩) ?_
        change Wk _ _ _ _ 7 0 _
        first | (refine Wk.skip (m := 6) (k := 0) rfl (by rfl) ?_) | (refine Wk.step (m := 6) (k := 0) (v := _) rfl (by rfl) (fun wv hS => by obtain ⟨s0, s1, s2, s3, s4, s5, s6, s7, s8⟩ := hS; go_simp; try with_reducible rfl) ?_)
        try simp only [Act.put, List.getElem_toArray, List.getElem_cons_zero, List.setIfInBounds_toArray, List.set_cons_zero, List.set_cons_succ]
        first | (refine Wk.skip (m := 5) (k := 1) rfl (by rfl) ?_) | (refine Wk.step (m := 5) (k := 1) (v := _) rfl (by rfl) (fun wv hS => by obtain ⟨s0, s1, s2, s3, s4, s5, s6, s7, s8⟩ := hS; go_simp; try with_reducible rfl) ?_)
        try simp only [Act.put, List.getElem_toArray, List.getElem_cons_succ, List.getElem_cons_zero, List.setIfInBounds_toArray, List.set_cons_zero, List.set_cons_succ]
        first | (refine Wk.skip (m := 4) (k := 2) rfl (by rfl) ?_) | (refine Wk.step (m := 4) (k := 2) (v := _) rfl (by rfl) (fun wv hS => by obtain ⟨s0, s1, s2, s3, s4, s5, s6, s7, s8⟩ := hS; go_simp; try with_reducible rfl) ?_)
        try simp only [Act.put, List.getElem_toArray, List.getElem_cons_succ, List.getElem_cons_zero, List.setIfInBounds_toArray, List.set_cons_zero, List.set_cons_succ]
        first | (refine Wk.skip (m := 3) (k := 3) rfl (by rfl) ?_) | (refine Wk.step (m := 3) (k := 3) (v := _) rfl (by rfl) (fun wv hS => by obtain ⟨s0, s1, s2, s3, s4, s5, s6, s7, s8⟩ := hS; go_simp; try with_reducible rfl) ?_)
        try simp only [Act.put, List.getElem_toArray, List.getElem_cons_succ, List.getElem_cons_zero, List.setIfInBounds_toArray, List.set_cons_zero, List.set_cons_succ]
        first | (refine Wk.skip (m := 2) (k := 4) rfl (by rfl) ?_) | (refine Wk.step (m := 2) (k := 4) (v := _) rfl (by rfl) (fun wv hS => by obtain ⟨s0, s1, s2, s3, s4, s5, s6, s7, s8⟩ := hS; go_simp; try with_reducible rfl) ?_)
        try simp only [Act.put, List.getElem_toArray, List.getElem_cons_succ, List.getElem_cons_zero, List.setIfInBounds_toArray, List.set_cons_zero, List.set_cons_succ]
        first | (refine Wk.skip (m := 1) (k := 5) rfl (by rfl) ?_) | (refine Wk.step (m := 1) (k := 5) (v := _) rfl (by rfl) (fun wv hS => by obtain ⟨s0, s1, s2, s3, s4, s5, s6, s7, s8⟩ := hS; go_simp; try with_reducible rfl) ?_)
        try simp only [Act.put, List.getElem_toArray, List.getElem_cons_succ, List.getElem_cons_zero, List.setIfInBounds_toArray, List.set_cons_zero, List.set_cons_succ]
        refine Wk.call (m := 0) (k := 6) (v := .bool true) _ _ rfl (by rfl) (fun wv hS => by obtain ⟨s0, s1, s2, s3, s4, s5, s6, s7, s8⟩ := hS; go_simp; first | done | exact ⟨rfl, rfl⟩ | with_reducible rfl) (fun wv hS => ?_) ?_; · obtain ⟨s0, s1, s2, s3, s4, s5, s6, s7, s8⟩ := hS; refine (specContains x.denied z wv).mono ?_; rintro e w' ⟨he, rfl⟩; exact ⟨by rw [he, HD.out], ⟨s0, s1, s2, s3, s4, s5, s6, s7, s8⟩⟩
        try simp only [Act.put, List.getElem_toArray, List.getElem_cons_succ, List.getElem_cons_zero, List.setIfInBounds_toArray, List.set_cons_zero, List.set_cons_succ]
        refine Wk.done fun wE hE => ?_
        obtain ⟨mE, p0, p1, p2, p3, q0, q1, q2, c0⟩ := hE
        go_wp2_with fail
        go_ret
        exact ⟨retB HE.out.symm, M3.trans mE⟩
    · obtain rfl : k = N := by omega
      clear hlt
      cases hl : roomB x k
      · have HR := Lib.hid (show polB x zs k out = false by unfold polB; rw [hl]; rfl)
        have hd : decide ((k : Int) < x.len) = false := hl
        have hd' : x.len ≤ (k : Int) := by have := of_decide_eq_false hd; omega
        clear hl
        go_wp2_with fail
        go_ret
        exact ⟨retB HR.out.symm, M3⟩
      · have HR := Lib.hid (show polB x zs k out = !hasB x.closed out by unfold polB; rw [hl, hS.out]; rfl)
        have hd : decide ((k : Int) < x.len) = true := hl
        have hd' : (k : Int) < x.len := of_decide_eq_true hd
        clear hl
        go_wp2_with fail
        refine (specContains x.closed out _).mono ?_
        rintro e w' ⟨rfl, rfl⟩
        go_wp2_with fail
        go_ret
        exact ⟨retB HR.out.symm, M3⟩

set_option maxRecDepth 100000 in
set_option maxHeartbeats 4000000 in
theorem implRoom (x : TPolicy) (x0 x1 : Int) (a : Option Addr) (n c : Nat) (out : Int) (w : World) :
    Calls Tryz.prog 111 #[.agg #[.int .i64 x.len, .int .i64 x.denied, .int .i64 x.closed, .int .i64 x.life], .agg #[.int .i64 x0, .int .i64 x1, .slice a n c], .int .i64 out] w fun e w' => e = .returned (.bool (roomB x n)) ∧ Mk0 w w' := by
  have M0 := (Mk.alloc w (Obj.cells #[Value.int .i64 x.len, Value.int .i64 x.denied, Value.int .i64 x.closed, Value.int .i64 x.life] 39)).new (Obj.cells #[Value.int .i64 x0, Value.int .i64 x1, Value.slice a n c] 31)
  go_enter Tryz.func111, Tryz.ntmps111
  go_wp2_with fail
  go_ret
  exact ⟨rfl, M0⟩

set_option maxRecDepth 100000 in
set_option maxHeartbeats 4000000 in
theorem implOpen (x : TPolicy) (x0 x1 : Int) (a : Option Addr) (n c : Nat) (out : Int) (w : World) :
    Calls Tryz.prog 113 #[.agg #[.int .i64 x.len, .int .i64 x.denied, .int .i64 x.closed, .int .i64 x.life], .agg #[.int .i64 x0, .int .i64 x1, .slice a n c], .int .i64 out] w fun e w' => e = .returned (.bool (!hasB x.closed out)) ∧ Mk0 w w' := by
  have M0 := (Mk.alloc w (Obj.cells #[Value.int .i64 x.len, Value.int .i64 x.denied, Value.int .i64 x.closed, Value.int .i64 x.life] 39)).new (Obj.cells #[Value.int .i64 x0, Value.int .i64 x1, Value.slice a n c] 31)
  go_enter Tryz.func113, Tryz.ntmps113
  go_wp2_with fail
  refine (implContains x.closed out _).mono ?_
  rintro e w' ⟨rfl, rfl⟩
  go_wp2_with fail
  go_ret
  exact ⟨rfl, M0⟩

set_option maxRecDepth 100000 in
set_option maxHeartbeats 4000000 in
theorem implAvoids (x : TPolicy) (x0 x1 : Int) (a : Option Addr) (n c B : Nat) (zs : List THop) (out : Int) (w : World) (h : HasHop w B a n zs) (hB : B ≤ w.heap.size) (hn : n ≤ 1048576) :
    Calls Tryz.prog 112 #[.agg #[.int .i64 x.len, .int .i64 x.denied, .int .i64 x.closed, .int .i64 x.life], .agg #[.int .i64 x0, .int .i64 x1, .slice a n c], .int .i64 out] w fun e w' => e = .returned (.bool (allN (denyI x.denied zs) n)) ∧ Mk0 w w' := by
  have M0 := (Mk.alloc w (Obj.cells #[Value.int .i64 x.len, Value.int .i64 x.denied, Value.int .i64 x.closed, Value.int .i64 x.life] 39)).new (Obj.cells #[Value.int .i64 x0, Value.int .i64 x1, Value.slice a n c] 31)
  have p0 : ((w.alloc (Obj.cells #[Value.int .i64 x.len, Value.int .i64 x.denied, Value.int .i64 x.closed, Value.int .i64 x.life] 39)).alloc (Obj.cells #[Value.int .i64 x0, Value.int .i64 x1, Value.slice a n c] 31)).cell? ⟨w.heap.size, 0, none⟩ = some (.int .i64 x.len) := by simp [go_sem]
  have p1 : ((w.alloc (Obj.cells #[Value.int .i64 x.len, Value.int .i64 x.denied, Value.int .i64 x.closed, Value.int .i64 x.life] 39)).alloc (Obj.cells #[Value.int .i64 x0, Value.int .i64 x1, Value.slice a n c] 31)).cell? ⟨w.heap.size, 1, none⟩ = some (.int .i64 x.denied) := by simp [go_sem]
  have p2 : ((w.alloc (Obj.cells #[Value.int .i64 x.len, Value.int .i64 x.denied, Value.int .i64 x.closed, Value.int .i64 x.life] 39)).alloc (Obj.cells #[Value.int .i64 x0, Value.int .i64 x1, Value.slice a n c] 31)).cell? ⟨w.heap.size, 2, none⟩ = some (.int .i64 x.closed) := by simp [go_sem]
  have p3 : ((w.alloc (Obj.cells #[Value.int .i64 x.len, Value.int .i64 x.denied, Value.int .i64 x.closed, Value.int .i64 x.life] 39)).alloc (Obj.cells #[Value.int .i64 x0, Value.int .i64 x1, Value.slice a n c] 31)).cell? ⟨w.heap.size, 3, none⟩ = some (.int .i64 x.life) := by simp [go_sem]
  have q0 : ((w.alloc (Obj.cells #[Value.int .i64 x.len, Value.int .i64 x.denied, Value.int .i64 x.closed, Value.int .i64 x.life] 39)).alloc (Obj.cells #[Value.int .i64 x0, Value.int .i64 x1, Value.slice a n c] 31)).cell? ⟨w.heap.size + 1, 0, none⟩ = some (.int .i64 x0) := by simp [go_sem]
  have q1 : ((w.alloc (Obj.cells #[Value.int .i64 x.len, Value.int .i64 x.denied, Value.int .i64 x.closed, Value.int .i64 x.life] 39)).alloc (Obj.cells #[Value.int .i64 x0, Value.int .i64 x1, Value.slice a n c] 31)).cell? ⟨w.heap.size + 1, 1, none⟩ = some (.int .i64 x1) := by simp [go_sem]
  have q2 : ((w.alloc (Obj.cells #[Value.int .i64 x.len, Value.int .i64 x.denied, Value.int .i64 x.closed, Value.int .i64 x.life] 39)).alloc (Obj.cells #[Value.int .i64 x0, Value.int .i64 x1, Value.slice a n c] 31)).cell? ⟨w.heap.size + 1, 2, none⟩ = some (.slice a n c) := by simp [go_sem]
  go_enter Tryz.func112, Tryz.ntmps112
  go_wp2_with fail
  refine (implSegASes x0 x1 a n c B zs _ (h.mk M0 hB (.inr (Nat.le_refl _))) (Nat.le_trans hB M0.size) hn).mono ?_
  rintro e w2 ⟨A, N, cc, rfl, hcc, oo, bb⟩
  have m2 := Mk.of_below bb
  have hNn : N = n := by have h1 := oo.has.1; have h2 := colN_len THop.nd zs n; omega
  subst hNn
  have M2 := M0.trans m2
  replace p0 := m2.cellAt p0
  replace p1 := m2.cellAt p1
  replace p2 := m2.cellAt p2
  replace p3 := m2.cellAt p3
  replace q0 := m2.cellAt q0
  replace q1 := m2.cellAt q1
  replace q2 := m2.cellAt q2
  have HO := oo.has
  clear oo bb hcc
  go_wp2_with fail
  go_loopw [6, 12] (fun r i wr => r = .bool false ∧ ∃ k : Nat, k ≤ N ∧ i = .int .i64 k ∧ Hid (allN (denyI x.denied zs) k = true) ∧ Mk0 w2 wr) (fun _ i _ => N - (intOf i).toNat)
  case atStart => exact ⟨rfl, 0, Nat.zero_le _, rfl, rfl, Mk.refl _ _ _⟩
  case round =>
    obtain ⟨rfl, k, hk, rfl, hS, hM⟩ := hrel
    have M3 := M2.trans hM
    replace p0 := hM.cellAt p0
    replace p1 := hM.cellAt p1
    replace p2 := hM.cellAt p2
    replace p3 := hM.cellAt p3
    replace q0 := hM.cellAt q0
    replace q1 := hM.cellAt q1
    replace q2 := hM.cellAt q2
    by_cases hlt : k < N
    · obtain ⟨b, off, z, rfl, hb, hz, c0⟩ := Has.at_ (hasR_int.1 ((hasR_int.2 HO).mk hM (Nat.le_refl _) (.inr (Nat.le_refl _)))) hlt
      have i1 : (0 : Int) ≤ (k : Int) := by omega
      have i2 : (k : Int) < (N : Int) := by omega
      cases hd : hasB x.denied z
      · have HD := Lib.hid hd
        have HE := Lib.hid (allN_go hS.out (deny_at hlt hz.out hd))
        clear hd
        go_wp2_with fail
        refine (implContains x.denied z _).mono ?_
        rintro e w' ⟨he, rfl⟩
        rw [HD.out] at he
        subst he
        go_wp2_with fail
        go_roundw
        case rel => exact ⟨rfl, k + 1, by omega, by go_num, HE.out, hM⟩
        case measure => simp [intOf]; omega
      · have HD := Lib.hid hd
        have HE := Lib.hid (allN_stop (deny_at hlt hz.out hd) hlt)
        clear hd
        go_wp2_with fail
        refine (implContains x.denied z _).mono ?_
        rintro e w' ⟨he, rfl⟩
        rw [HD.out] at he
        subst he
        go_wp2_with fail
        go_ret
        exact ⟨retB HE.out.symm, M3⟩
    · obtain rfl : k = N := by omega
      clear hlt
      go_wp2_with fail
      go_ret
      exact ⟨retB hS.out.symm, M3⟩

set_option maxRecDepth 100000 in
set_option maxHeartbeats 4000000 in
theorem implAllows (x : TPolicy) (x0 x1 : Int) (a : Option Addr) (n c B : Nat) (zs : List THop) (out : Int) (w : World) (h : HasHop w B a n zs) (hB : B ≤ w.heap.size) (hn : n ≤ 1048576) :
    Calls Tryz.prog 93 #[.agg #[.int .i64 x.len, .int .i64 x.denied, .int .i64 x.closed, .int .i64 x.life], .agg #[.int .i64 x0, .int .i64 x1, .slice a n c], .int .i64 out] w fun e w' => e = .returned (.bool (polB x zs n out)) ∧ Mk0 w w' := by
  have M0 := (Mk.alloc w (Obj.cells #[Value.int .i64 x.len, Value.int .i64 x.denied, Value.int .i64 x.closed, Value.int .i64 x.life] 39)).new (Obj.cells #[Value.int .i64 x0, Value.int .i64 x1, Value.slice a n c] 31)
  have p0 : ((w.alloc (Obj.cells #[Value.int .i64 x.len, Value.int .i64 x.denied, Value.int .i64 x.closed, Value.int .i64 x.life] 39)).alloc (Obj.cells #[Value.int .i64 x0, Value.int .i64 x1, Value.slice a n c] 31)).cell? ⟨w.heap.size, 0, none⟩ = some (.int .i64 x.len) := by simp [go_sem]
  have p1 : ((w.alloc (Obj.cells #[Value.int .i64 x.len, Value.int .i64 x.denied, Value.int .i64 x.closed, Value.int .i64 x.life] 39)).alloc (Obj.cells #[Value.int .i64 x0, Value.int .i64 x1, Value.slice a n c] 31)).cell? ⟨w.heap.size, 1, none⟩ = some (.int .i64 x.denied) := by simp [go_sem]
  have p2 : ((w.alloc (Obj.cells #[Value.int .i64 x.len, Value.int .i64 x.denied, Value.int .i64 x.closed, Value.int .i64 x.life] 39)).alloc (Obj.cells #[Value.int .i64 x0, Value.int .i64 x1, Value.slice a n c] 31)).cell? ⟨w.heap.size, 2, none⟩ = some (.int .i64 x.closed) := by simp [go_sem]
  have p3 : ((w.alloc (Obj.cells #[Value.int .i64 x.len, Value.int .i64 x.denied, Value.int .i64 x.closed, Value.int .i64 x.life] 39)).alloc (Obj.cells #[Value.int .i64 x0, Value.int .i64 x1, Value.slice a n c] 31)).cell? ⟨w.heap.size, 3, none⟩ = some (.int .i64 x.life) := by simp [go_sem]
  have q0 : ((w.alloc (Obj.cells #[Value.int .i64 x.len, Value.int .i64 x.denied, Value.int .i64 x.closed, Value.int .i64 x.life] 39)).alloc (Obj.cells #[Value.int .i64 x0, Value.int .i64 x1, Value.slice a n c] 31)).cell? ⟨w.heap.size + 1, 0, none⟩ = some (.int .i64 x0) := by simp [go_sem]
  have q1 : ((w.alloc (Obj.cells #[Value.int .i64 x.len, Value.int .i64 x.denied, Value.int .i64 x.closed, Value.int .i64 x.life] 39)).alloc (Obj.cells #[Value.int .i64 x0, Value.int .i64 x1, Value.slice a n c] 31)).cell? ⟨w.heap.size + 1, 1, none⟩ = some (.int .i64 x1) := by simp [go_sem]
  have q2 : ((w.alloc (Obj.cells #[Value.int .i64 x.len, Value.int .i64 x.denied, Value.int .i64 x.closed, Value.int .i64 x.life] 39)).alloc (Obj.cells #[Value.int .i64 x0, Value.int .i64 x1, Value.slice a n c] 31)).cell? ⟨w.heap.size + 1, 2, none⟩ = some (.slice a n c) := by simp [go_sem]
  have ix0 : ∀ w', (Instr.index 126 (Value.agg #[(Value.func (Fn.func 111) #[] #[]), (Value.func (Fn.func 112) #[] #[]), (Value.func (Fn.func 113) #[] #[])]) (Value.int .i64 0)).run Tryz.prog w' = .ok (Value.func (Fn.func 111) #[] #[]) w' := fun _ => by kernel_rfl
  have ix1 : ∀ w', (Instr.index 126 (Value.agg #[(Value.func (Fn.func 111) #[] #[]), (Value.func (Fn.func 112) #[] #[]), (Value.func (Fn.func 113) #[] #[])]) (Value.int .i64 1)).run Tryz.prog w' = .ok (Value.func (Fn.func 112) #[] #[]) w' := fun _ => by kernel_rfl
  have ix2 : ∀ w', (Instr.index 126 (Value.agg #[(Value.func (Fn.func 111) #[] #[]), (Value.func (Fn.func 112) #[] #[]), (Value.func (Fn.func 113) #[] #[])]) (Value.int .i64 2)).run Tryz.prog w' = .ok (Value.func (Fn.func 113) #[] #[]) w' := fun _ => by kernel_rfl
  go_enter Tryz.func93, Tryz.ntmps93
  go_wp2_with fail
  go_loopw [6, 12] (fun r i wr => r = .bool false ∧ ∃ k : Nat, k ≤ 3 ∧ i = .int .i64 k ∧ Hid ((1 ≤ k → roomB x n = true) ∧ (2 ≤ k → allN (denyI x.denied zs) n = true) ∧ (3 ≤ k → hasB x.closed out = false)) ∧ Mk0 ((w.alloc (Obj.cells #[Value.int .i64 x.len, Value.int .i64 x.denied, Value.int .i64 x.closed, Value.int .i64 x.life] 39)).alloc (Obj.cells #[Value.int .i64 x0, Value.int .i64 x1, Value.slice a n c] 31)) wr) (fun _ i _ => 3 - (intOf i).toNat)
  case atStart => exact ⟨rfl, 0, by omega, rfl, ⟨fun h => absurd h (by omega), fun h => absurd h (by omega), fun h => absurd h (by omega)⟩, Mk.alloc _ _⟩
  case round =>
    obtain ⟨rfl, k, hk, rfl, hS, hM⟩ := hrel
    have M3 := M0.trans hM
    replace p0 := hM.cellAt p0
    replace p1 := hM.cellAt p1
    replace p2 := hM.cellAt p2
    replace p3 := hM.cellAt p3
    replace q0 := hM.cellAt q0
    replace q1 := hM.cellAt q1
    replace q2 := hM.cellAt q2
    rcases (by omega : k = 0 ∨ k = 1 ∨ k = 2 ∨ k = 3) with rfl | rfl | rfl | rfl
    · cases hv : (roomB x n)
      · have HV := Lib.hid hv
        have HR := Lib.hid (show polB x zs n out = false by unfold polB; rw [hv]; simp)
        clear hv
        go_wp2_with fail
        refine (implRoom x x0 x1 a n c out _).mono ?_
        rintro e w2 ⟨he, m2⟩
        rw [HV.out] at he
        subst he
        go_wp2_with fail
        go_ret
        exact ⟨retB HR.out.symm, M3.trans m2⟩
      · have HV := Lib.hid hv
        clear hv
        go_wp2_with fail
        refine (implRoom x x0 x1 a n c out _).mono ?_
        rintro e w2 ⟨he, m2⟩
        rw [HV.out] at he
        subst he
        go_wp2_with fail
        go_roundw
        case rel => exact ⟨rfl, 1, by omega, by first | rfl | go_num, ⟨fun _ => by first | exact HV.out | trivial, fun h => absurd h (by omega), fun h => absurd h (by omega)⟩, hM.trans m2⟩
        case measure => simp [intOf]
    · cases hv : (allN (denyI x.denied zs) n)
      · have HV := Lib.hid hv
        have HR := Lib.hid (show polB x zs n out = false by unfold polB; rw [hv]; simp)
        clear hv
        go_wp2_with fail
        refine (implAvoids x x0 x1 a n c B zs out _ (h.mk M3 hB (.inr (Nat.le_refl _))) (Nat.le_trans hB M3.size) hn).mono ?_
        rintro e w2 ⟨he, m2⟩
        rw [HV.out] at he
        subst he
        go_wp2_with fail
        go_ret
        exact ⟨retB HR.out.symm, M3.trans m2⟩
      · have HV := Lib.hid hv
        clear hv
        go_wp2_with fail
        refine (implAvoids x x0 x1 a n c B zs out _ (h.mk M3 hB (.inr (Nat.le_refl _))) (Nat.le_trans hB M3.size) hn).mono ?_
        rintro e w2 ⟨he, m2⟩
        rw [HV.out] at he
        subst he
        go_wp2_with fail
        go_roundw
        case rel => exact ⟨rfl, 2, by omega, by first | rfl | go_num, ⟨fun _ => hS.out.1 (by omega), fun _ => by first | exact HV.out | trivial, fun h => absurd h (by omega)⟩, hM.trans m2⟩
        case measure => simp [intOf]
    · cases hv : (!hasB x.closed out)
      · have HV := Lib.hid hv
        have HR := Lib.hid (show polB x zs n out = false by unfold polB; rw [hv]; simp)
        clear hv
        go_wp2_with fail
        refine (implOpen x x0 x1 a n c out _).mono ?_
        rintro e w2 ⟨he, m2⟩
        rw [HV.out] at he
        subst he
        go_wp2_with fail
        go_ret
        exact ⟨retB HR.out.symm, M3.trans m2⟩
      · have HV := Lib.hid hv
        clear hv
        go_wp2_with fail
        refine (implOpen x x0 x1 a n c out _).mono ?_
        rintro e w2 ⟨he, m2⟩
        rw [HV.out] at he
        subst he
        go_wp2_with fail
        go_roundw
        case rel => exact ⟨rfl, 3, by omega, by first | rfl | go_num, ⟨fun _ => hS.out.1 (by omega), fun _ => hS.out.2.1 (by omega), fun _ => by have := HV.out; simpa using this⟩, hM.trans m2⟩
        case measure => simp [intOf]
    · have HR := Lib.hid (show polB x zs n out = true by unfold polB; rw [hS.out.1 (by omega), hS.out.2.1 (by omega), hS.out.2.2 (by omega)]; rfl)
      go_wp2_with fail
      go_ret
      exact ⟨retB HR.out.symm, M3⟩

end Go.Proofs.YtbbcpdgdihdmiaaGreatDoor
