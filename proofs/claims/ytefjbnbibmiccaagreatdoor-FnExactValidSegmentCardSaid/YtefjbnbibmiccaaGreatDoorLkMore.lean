
/- RemoteEnd and InterfaceKind of both sides. -/
import Derived.Test.YtefjbnbibmiccaaGreatDoorLkImpl
import Derived.Deep.QuietTactic
import Derived.BigQuiet
namespace Go.Proofs.YtefjbnbibmiccaaGreatDoor
open Go.ChangeShapes Go.WideShapes Go.ChangeAt Go.RowKit
set_option linter.unusedVariables false
def remote (zs : List TLink) (r d : Int) (n : Nat) : Int × Int :=
  if lkIx zs r d n < 0 then (-1, 0) else
    if (zs.getD (lkIx zs r d n).toNat default).a = r ∧ (zs.getD (lkIx zs r d n).toNat default).ai = d then ((zs.getD (lkIx zs r d n).toNat default).b, (zs.getD (lkIx zs r d n).toNat default).bi)
    else ((zs.getD (lkIx zs r d n).toNat default).a, (zs.getD (lkIx zs r d n).toNat default).ai)
theorem remote_none {zs : List TLink} {r d : Int} {n : Nat} (h : lkIx zs r d n = -1) : remote zs r d n = (-1, 0) := by simp [remote, h]
theorem remote_a {zs : List TLink} {r d : Int} {n q : Nat} {x : TLink} (h : lkIx zs r d n = (q : Int)) (hx : x = zs.getD q default) (h1 : (x.a == r) = true) (h2 : (x.ai == d) = true) : remote zs r d n = (x.b, x.bi) := by
  subst hx
  have e : ((q : Nat) : Int).toNat = q := by omega
  unfold remote
  rw [h, e, if_neg (by omega), if_pos ⟨eq_of_beq h1, eq_of_beq h2⟩]
theorem remote_b {zs : List TLink} {r d : Int} {n q : Nat} {x : TLink} (h : lkIx zs r d n = (q : Int)) (hx : x = zs.getD q default) (h1 : (x.a == r) = false ∨ (x.ai == d) = false) : remote zs r d n = (x.a, x.ai) := by
  subst hx
  have e : ((q : Nat) : Int).toNat = q := by omega
  unfold remote
  rw [h, e, if_neg (by omega), if_neg (fun hh => by
    rcases h1 with h1 | h1
    · rw [hh.1] at h1; simp at h1
    · rw [hh.2] at h1; simp at h1)]
theorem ret_2 {a b : Int} {p : Int × Int} (h : p = (a, b)) : Ending.returned (.tuple #[.int .i64 a, .int .i64 b]) = .returned (.tuple #[.int .i64 p.1, .int .i64 p.2]) := by rw [h]
theorem lkIx_cases (zs : List TLink) (r d : Int) (n : Nat) : lkIx zs r d n = -1 ∨ ∃ q : Nat, lkIx zs r d n = (q : Int) ∧ q < n := by
  rcases firstIx_range (fun k => (zs.getD k default).uses r d) n 0 with h | ⟨q, h1, _, h2⟩
  · exact .inl h
  · exact .inr ⟨q, h1, by omega⟩

set_option maxRecDepth 100000 in
set_option maxHeartbeats 4000000 in
theorem specRemote (a0 a1 : Option Addr) (n0 c0 n1 c1 B : Nat) (zs : List TLink) (r d : Int) (w : World) (h : HasLink w B a1 n1 zs) (hB : B ≤ w.heap.size) (hn : n1 ≤ 1048576) :
    Calls Tryz.prog 45 #[.agg #[.slice a0 n0 c0, .slice a1 n1 c1], .int .i64 r, .int .i64 d] w fun e w' => e = .returned (.tuple #[.int .i64 (remote zs r d n1).1, .int .i64 (remote zs r d n1).2]) ∧ Mk0 w w' := by
  rcases lkIx_cases zs r d n1 with hq | ⟨q, hq, hlt⟩
  · go_enter Tryz.func45, Tryz.ntmps45
    go_wp2_with fail
    have M0 := Mk.alloc w (Obj.cells #[Value.slice a0 n0 c0, Value.slice a1 n1 c1] 35)
    have k0 : (w.alloc (Obj.cells #[Value.slice a0 n0 c0, Value.slice a1 n1 c1] 35)).cell? ⟨w.heap.size, 1, none⟩ = some (.slice a1 n1 c1) := by simp [go_sem]
    refine (specLinkIx _ _ _ _ _ _ _ zs _ _ _ (h.mk M0 hB (.inr (Nat.le_refl _))) (by rw [World.size_alloc]; omega) hn).mono ?_
    rintro e w1 ⟨he, m1⟩
    rw [hq] at he
    subst he
    have M1 := M0.trans m1
    replace k0 := m1.cellAt k0
    have HQ := Lib.hid hq
    clear hq
    go_wp2_with fail
    go_ret2
    exact ⟨ret_2 (remote_none HQ.out), M1⟩
  · go_enter Tryz.func45, Tryz.ntmps45
    go_wp2_with fail
    have M0 := Mk.alloc w (Obj.cells #[Value.slice a0 n0 c0, Value.slice a1 n1 c1] 35)
    have k0 : (w.alloc (Obj.cells #[Value.slice a0 n0 c0, Value.slice a1 n1 c1] 35)).cell? ⟨w.heap.size, 1, none⟩ = some (.slice a1 n1 c1) := by simp [go_sem]
    refine (specLinkIx _ _ _ _ _ _ _ zs _ _ _ (h.mk M0 hB (.inr (Nat.le_refl _))) (by rw [World.size_alloc]; omega) hn).mono ?_
    rintro e w1 ⟨he, m1⟩
    rw [hq] at he
    subst he
    have M1 := M0.trans m1
    replace k0 := m1.cellAt k0
    have HQ := Lib.hid hq
    clear hq
    obtain ⟨b, off, x, rfl, hb, hx, d0, d1, d2, d3, d4⟩ := HasLink.at _ _ _ _ _ _ (h.mk M1 hB (.inr (Nat.le_refl _))) hlt
    cases h1 : (x.a == r)
    · go_wp2_with fail
      go_quiet (fail)
      go_wp2_with fail
      go_ret2
      exact ⟨ret_2 (remote_b HQ.out hx.out (.inl h1)), (M1.new _).trans (Mk.drewN _ _)⟩
    · cases h2 : (x.ai == d)
      · go_wp2_with fail
        go_quiet (fail)
        go_wp2_with fail
        go_ret2
        exact ⟨ret_2 (remote_b HQ.out hx.out (.inr h2)), (M1.new _).trans (Mk.drewN _ _)⟩
      · go_wp2_with fail
        go_quiet (fail)
        go_wp2_with fail
        go_ret2
        exact ⟨ret_2 (remote_a HQ.out hx.out h1 h2), (M1.new _).trans (Mk.drewN _ _)⟩

set_option maxRecDepth 100000 in
set_option maxHeartbeats 4000000 in
theorem implRemote (a0 a1 : Option Addr) (n0 c0 n1 c1 B : Nat) (zs : List TLink) (r d : Int) (w : World) (h : HasLink w B a1 n1 zs) (hB : B ≤ w.heap.size) (hn : n1 ≤ 1048576) :
    Calls Tryz.prog 49 #[.agg #[.slice a0 n0 c0, .slice a1 n1 c1], .int .i64 r, .int .i64 d] w fun e w' => e = .returned (.tuple #[.int .i64 (remote zs r d n1).1, .int .i64 (remote zs r d n1).2]) ∧ Mk0 w w' := by
  rcases lkIx_cases zs r d n1 with hq | ⟨q, hq, hlt⟩
  · go_enter Tryz.func49, Tryz.ntmps49
    go_wp2_with fail
    have M0 := Mk.alloc w (Obj.cells #[Value.slice a0 n0 c0, Value.slice a1 n1 c1] 35)
    have k0 : (w.alloc (Obj.cells #[Value.slice a0 n0 c0, Value.slice a1 n1 c1] 35)).cell? ⟨w.heap.size, 1, none⟩ = some (.slice a1 n1 c1) := by simp [go_sem]
    refine (implLinkIx _ _ _ _ _ _ _ zs _ _ _ (h.mk M0 hB (.inr (Nat.le_refl _))) (by rw [World.size_alloc]; omega) hn).mono ?_
    rintro e w1 ⟨he, m1⟩
    rw [hq] at he
    subst he
    have M1 := M0.trans m1
    replace k0 := m1.cellAt k0
    have HQ := Lib.hid hq
    clear hq
    go_wp2_with fail
    go_ret2
    exact ⟨ret_2 (remote_none HQ.out), M1⟩
  · go_enter Tryz.func49, Tryz.ntmps49
    go_wp2_with fail
    have M0 := Mk.alloc w (Obj.cells #[Value.slice a0 n0 c0, Value.slice a1 n1 c1] 35)
    have k0 : (w.alloc (Obj.cells #[Value.slice a0 n0 c0, Value.slice a1 n1 c1] 35)).cell? ⟨w.heap.size, 1, none⟩ = some (.slice a1 n1 c1) := by simp [go_sem]
    refine (implLinkIx _ _ _ _ _ _ _ zs _ _ _ (h.mk M0 hB (.inr (Nat.le_refl _))) (by rw [World.size_alloc]; omega) hn).mono ?_
    rintro e w1 ⟨he, m1⟩
    rw [hq] at he
    subst he
    have M1 := M0.trans m1
    replace k0 := m1.cellAt k0
    have HQ := Lib.hid hq
    clear hq
    obtain ⟨b, off, x, rfl, hb, hx, d0, d1, d2, d3, d4⟩ := HasLink.at _ _ _ _ _ _ (h.mk M1 hB (.inr (Nat.le_refl _))) hlt
    go_wp2_with fail
    refine (portA _ _ _ _ _ _).mono ?_
    rintro e w2 ⟨rfl, m2⟩
    have M2 := M1.trans m2
    replace k0 := m2.cellAt k0
    replace d0 := m2.cellAt d0
    replace d1 := m2.cellAt d1
    replace d2 := m2.cellAt d2
    replace d3 := m2.cellAt d3
    replace d4 := m2.cellAt d4
    have y0 := World.block_lt_of_cell? _ _ k0
    have y1 := World.block_lt_of_cell? _ _ d0
    simp only at y0 y1
    cases h1 : (x.a == r)
    · go_wp2_with fail
      go_quiet (fail)
      go_wp2_with fail
      go_ret2
      exact ⟨ret_2 (remote_b HQ.out hx.out (.inl h1)), (M2.new _).trans (Mk.drewN _ _)⟩
    · cases h2 : (x.ai == d)
      · go_wp2_with fail
        go_quiet (fail)
        go_wp2_with fail
        go_ret2
        exact ⟨ret_2 (remote_b HQ.out hx.out (.inr h2)), (M2.new _).trans (Mk.drewN _ _)⟩
      · go_wp2_with fail
        refine (portB _ _ _ _ _ _).mono ?_
        rintro e w3 ⟨rfl, m3⟩
        have M3 := (M2.new _).trans m3
        have F0 : (w2.alloc (Obj.cells #[Value.int .i64 x.a, Value.int .i64 x.ai] 107)).cell? ⟨w2.heap.size, 0, none⟩ = some (.int .i64 x.a) := by rw [World.cell?_alloc_at _ _ _ _ rfl]; rfl
        have F1 : (w2.alloc (Obj.cells #[Value.int .i64 x.a, Value.int .i64 x.ai] 107)).cell? ⟨w2.heap.size, 1, none⟩ = some (.int .i64 x.ai) := by rw [World.cell?_alloc_at _ _ _ _ rfl]; rfl
        have E0 : w3.frozen? ⟨w2.heap.size, 0, none⟩ = false := m3.frozenAt F0 (by simp [go_sem])
        have E1 : w3.frozen? ⟨w2.heap.size, 1, none⟩ = false := m3.frozenAt F1 (by simp [go_sem])
        replace F0 := m3.cellAt F0
        replace F1 := m3.cellAt F1
        go_wp2_with fail
        go_quiet (fail)
        go_wp2_with fail
        go_ret2
        exact ⟨ret_2 (remote_a HQ.out hx.out h1 h2), ((M3.put _ _ (Nat.le_of_lt y0)).put _ _ (Nat.le_of_lt y0)).trans (Mk.drewN _ _)⟩
end Go.Proofs.YtefjbnbibmiccaaGreatDoor
