
/- Parts of a path: reversed kinds, the interfaces at a hop, the value behind i hops, of both sides. -/
import Derived.Test.YtifhhfndoifbhaaGreatCPathPart
import Derived.Test.YtifhhfndoifbhaaGreatRow
import Derived.Test.YtifhhfndoifbhaaGreatInR
import Derived.Test.YtifhhfndoifbhaaGreatDig
import Derived.Deep.QuietTactic
import Derived.BigQuiet
import Derived.Test.YtifhhfndoifbhaaGreatVerify
namespace Go.Proofs.YtifhhfndoifbhaaGreat
open Go.ChangeShapes Go.WideShapes Go.ChangeAt Go.RowKit
set_option linter.unusedVariables false
def revB (k : Int) : Bool := (k == 1) || (k == 3)
def pInV (k : Int) (zs : List THop) (n : Nat) (i : Int) : Int := if 0 ≤ i ∧ i < n then (if revB k = true then (zs.getD i.toNat default).eg else (zs.getD i.toNat default).ing) else 0
def pOutV (k : Int) (zs : List THop) (n : Nat) (i : Int) : Int := if 0 ≤ i ∧ i < n then (if revB k = true then (zs.getD i.toNat default).ing else (zs.getD i.toNat default).eg) else 0
theorem pIn_out {k : Int} {zs : List THop} {n : Nat} {i : Int} (h : i < 0 ∨ (n : Int) ≤ i) : pInV k zs n i = 0 := if_neg (by omega)
theorem pOut_out {k : Int} {zs : List THop} {n : Nat} {i : Int} (h : i < 0 ∨ (n : Int) ≤ i) : pOutV k zs n i = 0 := if_neg (by omega)
theorem pIn_at {k : Int} {zs : List THop} {n q : Nat} {x : THop} (h : q < n) (hx : x = zs.getD q default) : pInV k zs n (q : Int) = if revB k = true then x.eg else x.ing := by
  subst hx; unfold pInV; rw [if_pos ⟨by omega, by omega⟩, show ((q : Nat) : Int).toNat = q by omega]
theorem pOut_at {k : Int} {zs : List THop} {n q : Nat} {x : THop} (h : q < n) (hx : x = zs.getD q default) : pOutV k zs n (q : Int) = if revB k = true then x.ing else x.eg := by
  subst hx; unfold pOutV; rw [if_pos ⟨by omega, by omega⟩, show ((q : Nat) : Int).toNat = q by omega]
def pass (k b m : Int) : Int := if revB k = true then subM b m else addM b m
def passN (k b : Int) (zs : List THop) : Nat → Int
  | 0 => b
  | j + 1 => pass k (passN k b zs j) (zs.getD j default).mac
def afterV (k b : Int) (zs : List THop) (n : Nat) (i : Int) : Int := if 0 ≤ i ∧ i ≤ n then passN k b zs i.toNat else 0
theorem after_in {k b : Int} {zs : List THop} {n q : Nat} (h : q ≤ n) : afterV k b zs n (q : Int) = passN k b zs q := by
  unfold afterV; rw [if_pos ⟨by omega, by omega⟩, show ((q : Nat) : Int).toNat = q by omega]
theorem after_out {k b : Int} {zs : List THop} {n : Nat} {i : Int} (h : i < 0 ∨ (n : Int) < i) : afterV k b zs n i = 0 := if_neg (by omega)
theorem pass_t {k b m : Int} (h : revB k = true) : pass k b m = subM b m := if_pos h
theorem pass_f {k b m : Int} (h : revB k = false) : pass k b m = addM b m := if_neg (by simp [h])

set_option maxRecDepth 100000 in
set_option maxHeartbeats 4000000 in
theorem specRev (k : Int) (w : World) : Calls Tryz.prog 82 #[.int .i64 k] w fun e w' => e = .returned (.bool (revB k)) ∧ Mk0 w w' := by
  by_cases h1 : k = 1
  · subst h1
    go_enter Tryz.func82, Tryz.ntmps82
    go_wp2
    go_ret
    exact ⟨rfl, Mk.refl _ _ _⟩
  · have n1 : (k == 1) = false := by simpa using h1
    clear h1
    cases h3 : (k == 3)
    all_goals (
      have HR := Lib.hid (show revB k = (false || _) by unfold revB; rw [n1, h3])
      go_enter Tryz.func82, Tryz.ntmps82
      go_wp2
      go_ret
      exact ⟨retB HR.out.symm, Mk.refl _ _ _⟩)

set_option maxRecDepth 100000 in
set_option maxHeartbeats 4000000 in
theorem kindIs1 (w : World) : Calls Tryz.prog 92 #[.int .i64 1] w fun e w' => e = .returned (.iface 133 (.agg #[])) ∧ Mk0 w w' := by
  go_enter Tryz.func92, Tryz.ntmps92
  go_wp2
  go_ret
  exact ⟨rfl, Mk.of_below (by go_grown)⟩

set_option maxRecDepth 100000 in
set_option maxHeartbeats 4000000 in
theorem kindIs2 (w : World) : Calls Tryz.prog 92 #[.int .i64 2] w fun e w' => e = .returned (.iface 134 (.agg #[])) ∧ Mk0 w w' := by
  go_enter Tryz.func92, Tryz.ntmps92
  go_wp2
  go_ret
  exact ⟨rfl, Mk.of_below (by go_grown)⟩

set_option maxRecDepth 100000 in
set_option maxHeartbeats 4000000 in
theorem kindIs3 (w : World) : Calls Tryz.prog 92 #[.int .i64 3] w fun e w' => e = .returned (.iface 135 (.agg #[])) ∧ Mk0 w w' := by
  go_enter Tryz.func92, Tryz.ntmps92
  go_wp2
  go_ret
  exact ⟨rfl, Mk.of_below (by go_grown)⟩

set_option maxRecDepth 100000 in
set_option maxHeartbeats 4000000 in
theorem kindIs4 (w : World) : Calls Tryz.prog 92 #[.int .i64 4] w fun e w' => e = .returned (.iface 136 (.agg #[])) ∧ Mk0 w w' := by
  go_enter Tryz.func92, Tryz.ntmps92
  go_wp2
  go_ret
  exact ⟨rfl, Mk.of_below (by go_grown)⟩

set_option maxRecDepth 100000 in
set_option maxHeartbeats 4000000 in
theorem kindIs0 (k : Int) (w : World) (n1 : (k == 1) = false) (n2 : (k == 2) = false) (n3 : (k == 3) = false) (n4 : (k == 4) = false) : Calls Tryz.prog 92 #[.int .i64 k] w fun e w' => e = .returned .nilIface ∧ Mk0 w w' := by
  go_enter Tryz.func92, Tryz.ntmps92
  go_wp2
  go_ret
  exact ⟨rfl, Mk.of_below (by go_grown)⟩

set_option maxRecDepth 100000 in
set_option maxHeartbeats 4000000 in
theorem implRev (k : Int) (w : World) : Calls Tryz.prog 99 #[.int .i64 k] w fun e w' => e = .returned (.bool (revB k)) ∧ Mk0 w w' := by
  by_cases h1 : k = 1
  · subst h1
    have q_upPart : ∀ w', (Instr.typeAssert (Value.iface 133 (.agg #[])) 120 133 true).run Tryz.prog w' = .ok (.tuple #[.agg #[], .bool true]) w' := fun _ => by kernel_rfl
    have q_reversedCorePart : ∀ w', (Instr.typeAssert (Value.iface 133 (.agg #[])) 120 135 true).run Tryz.prog w' = .ok (.tuple #[.agg #[], .bool false]) w' := fun _ => by kernel_rfl
    go_enter Tryz.func99, Tryz.ntmps99
    go_wp2_with fail
    refine (kindIs1 _).mono ?_
    rintro e w1 ⟨rfl, m1⟩
    go_wp2_with fail
    go_ret
    exact ⟨rfl, m1⟩
  by_cases h2 : k = 2
  · subst h2
    have q_upPart : ∀ w', (Instr.typeAssert (Value.iface 134 (.agg #[])) 120 133 true).run Tryz.prog w' = .ok (.tuple #[.agg #[], .bool false]) w' := fun _ => by kernel_rfl
    have q_reversedCorePart : ∀ w', (Instr.typeAssert (Value.iface 134 (.agg #[])) 120 135 true).run Tryz.prog w' = .ok (.tuple #[.agg #[], .bool false]) w' := fun _ => by kernel_rfl
    go_enter Tryz.func99, Tryz.ntmps99
    go_wp2_with fail
    refine (kindIs2 _).mono ?_
    rintro e w1 ⟨rfl, m1⟩
    go_wp2_with fail
    go_ret
    exact ⟨rfl, m1⟩
  by_cases h3 : k = 3
  · subst h3
    have q_upPart : ∀ w', (Instr.typeAssert (Value.iface 135 (.agg #[])) 120 133 true).run Tryz.prog w' = .ok (.tuple #[.agg #[], .bool false]) w' := fun _ => by kernel_rfl
    have q_reversedCorePart : ∀ w', (Instr.typeAssert (Value.iface 135 (.agg #[])) 120 135 true).run Tryz.prog w' = .ok (.tuple #[.agg #[], .bool true]) w' := fun _ => by kernel_rfl
    go_enter Tryz.func99, Tryz.ntmps99
    go_wp2_with fail
    refine (kindIs3 _).mono ?_
    rintro e w1 ⟨rfl, m1⟩
    go_wp2_with fail
    go_ret
    exact ⟨rfl, m1⟩
  by_cases h4 : k = 4
  · subst h4
    have q_upPart : ∀ w', (Instr.typeAssert (Value.iface 136 (.agg #[])) 120 133 true).run Tryz.prog w' = .ok (.tuple #[.agg #[], .bool false]) w' := fun _ => by kernel_rfl
    have q_reversedCorePart : ∀ w', (Instr.typeAssert (Value.iface 136 (.agg #[])) 120 135 true).run Tryz.prog w' = .ok (.tuple #[.agg #[], .bool false]) w' := fun _ => by kernel_rfl
    go_enter Tryz.func99, Tryz.ntmps99
    go_wp2_with fail
    refine (kindIs4 _).mono ?_
    rintro e w1 ⟨rfl, m1⟩
    go_wp2_with fail
    go_ret
    exact ⟨rfl, m1⟩
  have n1 : (k == 1) = false := by simpa using h1
  have n2 : (k == 2) = false := by simpa using h2
  have n3 : (k == 3) = false := by simpa using h3
  have n4 : (k == 4) = false := by simpa using h4
  have HR := Lib.hid (show revB k = false by unfold revB; rw [n1, n3]; rfl)
  clear h1 h2 h3 h4
  have q_upPart : ∀ w', (Instr.typeAssert Value.nilIface 120 133 true).run Tryz.prog w' = .ok (.tuple #[.agg #[], .bool false]) w' := fun _ => by kernel_rfl
  have q_reversedCorePart : ∀ w', (Instr.typeAssert Value.nilIface 120 135 true).run Tryz.prog w' = .ok (.tuple #[.agg #[], .bool false]) w' := fun _ => by kernel_rfl
  go_enter Tryz.func99, Tryz.ntmps99
  go_wp2_with fail
  refine (kindIs0 k _ n1 n2 n3 n4).mono ?_
  rintro e w1 ⟨rfl, m1⟩
  go_wp2_with fail
  go_ret
  exact ⟨retB HR.out.symm, m1⟩

theorem ret_p {a b c d : Int} (h : a = b) (k : c = d) : Ending.returned (.tuple #[.int .i64 b, .int .i64 d]) = .returned (.tuple #[.int .i64 a, .int .i64 c]) := by rw [h, k]

set_option maxRecDepth 100000 in
set_option maxHeartbeats 4000000 in
theorem specPIn (x0 x1 x2 : Int) (a : Option Addr) (n c B : Nat) (zs : List THop) (i : Int) (w : World) (h : HasHop w B a n zs) (hB : B ≤ w.heap.size) (hn : n ≤ 1048576) :
    Calls Tryz.prog 80 #[.agg #[.int .i64 x0, .int .i64 x1, .int .i64 x2, .slice a n c], .int .i64 i] w fun e w' => e = .returned (.int .i64 (pInV x0 zs n i)) ∧ Mk0 w w' := by
  have M0 := Mk.alloc w (Obj.cells #[Value.int .i64 x0, Value.int .i64 x1, Value.int .i64 x2, Value.slice a n c] 50)
  by_cases hi : i < 0 ∨ (n : Int) ≤ i
  · have HR := Lib.hid (pIn_out (k := x0) (zs := zs) hi)
    have HI := Lib.hid hi
    clear hi
    go_enter Tryz.func80, Tryz.ntmps80
    go_wp2_with fail
    refine (specInNo _ _ _ _ (by have := HI.out; omega)).mono ?_
    rintro e w' ⟨rfl, rfl⟩
    go_wp2_with fail
    go_ret
    exact ⟨retI HR.out.symm, M0⟩
  obtain ⟨q, rfl⟩ : ∃ q : Nat, i = (q : Int) := ⟨i.toNat, by omega⟩
  have hq : q < n := by omega
  clear hi
  obtain ⟨b, off, x, rfl, hb, hx, d0, d1, d2, d3, d4⟩ := HasHop.at _ _ _ _ _ _ h hq
  have hbw := Nat.lt_of_lt_of_le hb hB
  cases hr : revB x0
  · have HR := Lib.hid ((pIn_at (k := x0) hq hx.out).trans (if_neg (by simp [hr])))
    go_enter Tryz.func80, Tryz.ntmps80
    go_wp2_with fail
    refine (specInYes _ _ _ _ (by omega) (by omega)).mono ?_
    rintro e w' ⟨rfl, rfl⟩
    go_wp2_with fail
    refine (specRev _ _).mono ?_
    rintro e w1 ⟨he, m1⟩
    rw [hr] at he
    subst he
    have M1 := M0.trans m1
    have k3 : (w.alloc (Obj.cells #[Value.int .i64 x0, Value.int .i64 x1, Value.int .i64 x2, Value.slice (some ⟨b, off, none⟩) n c] 50)).cell? ⟨w.heap.size, 3, none⟩ = some (.slice (some ⟨b, off, none⟩) n c) := by simp [go_sem]
    replace k3 := m1.cellAt k3
    replace d0 := M1.cellAt d0
    replace d1 := M1.cellAt d1
    replace d2 := M1.cellAt d2
    replace d3 := M1.cellAt d3
    replace d4 := M1.cellAt d4
    have hb1 := Nat.lt_of_lt_of_le hbw M1.size
    go_wp2_with fail
    go_ret
    exact ⟨retI HR.out.symm, M1⟩
  · have HR := Lib.hid ((pIn_at (k := x0) hq hx.out).trans (if_pos hr))
    go_enter Tryz.func80, Tryz.ntmps80
    go_wp2_with fail
    refine (specInYes _ _ _ _ (by omega) (by omega)).mono ?_
    rintro e w' ⟨rfl, rfl⟩
    go_wp2_with fail
    refine (specRev _ _).mono ?_
    rintro e w1 ⟨he, m1⟩
    rw [hr] at he
    subst he
    have M1 := M0.trans m1
    have k3 : (w.alloc (Obj.cells #[Value.int .i64 x0, Value.int .i64 x1, Value.int .i64 x2, Value.slice (some ⟨b, off, none⟩) n c] 50)).cell? ⟨w.heap.size, 3, none⟩ = some (.slice (some ⟨b, off, none⟩) n c) := by simp [go_sem]
    replace k3 := m1.cellAt k3
    replace d0 := M1.cellAt d0
    replace d1 := M1.cellAt d1
    replace d2 := M1.cellAt d2
    replace d3 := M1.cellAt d3
    replace d4 := M1.cellAt d4
    have hb1 := Nat.lt_of_lt_of_le hbw M1.size
    go_wp2_with fail
    go_ret
    exact ⟨retI HR.out.symm, M1⟩

set_option maxRecDepth 100000 in
set_option maxHeartbeats 4000000 in
theorem specPOut (x0 x1 x2 : Int) (a : Option Addr) (n c B : Nat) (zs : List THop) (i : Int) (w : World) (h : HasHop w B a n zs) (hB : B ≤ w.heap.size) (hn : n ≤ 1048576) :
    Calls Tryz.prog 79 #[.agg #[.int .i64 x0, .int .i64 x1, .int .i64 x2, .slice a n c], .int .i64 i] w fun e w' => e = .returned (.int .i64 (pOutV x0 zs n i)) ∧ Mk0 w w' := by
  have M0 := Mk.alloc w (Obj.cells #[Value.int .i64 x0, Value.int .i64 x1, Value.int .i64 x2, Value.slice a n c] 50)
  by_cases hi : i < 0 ∨ (n : Int) ≤ i
  · have HR := Lib.hid (pOut_out (k := x0) (zs := zs) hi)
    have HI := Lib.hid hi
    clear hi
    go_enter Tryz.func79, Tryz.ntmps79
    go_wp2_with fail
    refine (specInNo _ _ _ _ (by have := HI.out; omega)).mono ?_
    rintro e w' ⟨rfl, rfl⟩
    go_wp2_with fail
    go_ret
    exact ⟨retI HR.out.symm, M0⟩
  obtain ⟨q, rfl⟩ : ∃ q : Nat, i = (q : Int) := ⟨i.toNat, by omega⟩
  have hq : q < n := by omega
  clear hi
  obtain ⟨b, off, x, rfl, hb, hx, d0, d1, d2, d3, d4⟩ := HasHop.at _ _ _ _ _ _ h hq
  have hbw := Nat.lt_of_lt_of_le hb hB
  cases hr : revB x0
  · have HR := Lib.hid ((pOut_at (k := x0) hq hx.out).trans (if_neg (by simp [hr])))
    go_enter Tryz.func79, Tryz.ntmps79
    go_wp2_with fail
    refine (specInYes _ _ _ _ (by omega) (by omega)).mono ?_
    rintro e w' ⟨rfl, rfl⟩
    go_wp2_with fail
    refine (specRev _ _).mono ?_
    rintro e w1 ⟨he, m1⟩
    rw [hr] at he
    subst he
    have M1 := M0.trans m1
    have k3 : (w.alloc (Obj.cells #[Value.int .i64 x0, Value.int .i64 x1, Value.int .i64 x2, Value.slice (some ⟨b, off, none⟩) n c] 50)).cell? ⟨w.heap.size, 3, none⟩ = some (.slice (some ⟨b, off, none⟩) n c) := by simp [go_sem]
    replace k3 := m1.cellAt k3
    replace d0 := M1.cellAt d0
    replace d1 := M1.cellAt d1
    replace d2 := M1.cellAt d2
    replace d3 := M1.cellAt d3
    replace d4 := M1.cellAt d4
    have hb1 := Nat.lt_of_lt_of_le hbw M1.size
    go_wp2_with fail
    go_ret
    exact ⟨retI HR.out.symm, M1⟩
  · have HR := Lib.hid ((pOut_at (k := x0) hq hx.out).trans (if_pos hr))
    go_enter Tryz.func79, Tryz.ntmps79
    go_wp2_with fail
    refine (specInYes _ _ _ _ (by omega) (by omega)).mono ?_
    rintro e w' ⟨rfl, rfl⟩
    go_wp2_with fail
    refine (specRev _ _).mono ?_
    rintro e w1 ⟨he, m1⟩
    rw [hr] at he
    subst he
    have M1 := M0.trans m1
    have k3 : (w.alloc (Obj.cells #[Value.int .i64 x0, Value.int .i64 x1, Value.int .i64 x2, Value.slice (some ⟨b, off, none⟩) n c] 50)).cell? ⟨w.heap.size, 3, none⟩ = some (.slice (some ⟨b, off, none⟩) n c) := by simp [go_sem]
    replace k3 := m1.cellAt k3
    replace d0 := M1.cellAt d0
    replace d1 := M1.cellAt d1
    replace d2 := M1.cellAt d2
    replace d3 := M1.cellAt d3
    replace d4 := M1.cellAt d4
    have hb1 := Nat.lt_of_lt_of_le hbw M1.size
    go_wp2_with fail
    go_ret
    exact ⟨retI HR.out.symm, M1⟩

set_option maxRecDepth 100000 in
set_option maxHeartbeats 4000000 in
theorem implDoors (x0 x1 x2 : Int) (a : Option Addr) (n c B : Nat) (zs : List THop) (i : Int) (w : World) (h : HasHop w B a n zs) (hB : B ≤ w.heap.size) (hn : n ≤ 1048576) :
    Calls Tryz.prog 112 #[.agg #[.int .i64 x0, .int .i64 x1, .int .i64 x2, .slice a n c], .int .i64 i] w fun e w' => e = .returned (.tuple #[.int .i64 (pInV x0 zs n i), .int .i64 (pOutV x0 zs n i)]) ∧ Mk0 w w' := by
  have M0 := Mk.alloc w (Obj.cells #[Value.int .i64 x0, Value.int .i64 x1, Value.int .i64 x2, Value.slice a n c] 50)
  by_cases hi : i < 0 ∨ (n : Int) ≤ i
  · have HR := Lib.hid (pIn_out (k := x0) (zs := zs) hi)
    have HQ := Lib.hid (pOut_out (k := x0) (zs := zs) hi)
    have HI := Lib.hid hi
    clear hi
    go_enter Tryz.func112, Tryz.ntmps112
    go_wp2_with fail
    refine (implInNo _ _ _ _ (by have := HI.out; omega)).mono ?_
    rintro e w' ⟨rfl, rfl⟩
    go_wp2_with fail
    refine bodyPost_ret (v := .tuple #[.int .i64 0, .int .i64 0]) (by simp [results, Tryz.results112, go_sem]) rfl ⟨ret_p HR.out HQ.out, M0⟩
  obtain ⟨q, rfl⟩ : ∃ q : Nat, i = (q : Int) := ⟨i.toNat, by omega⟩
  have hq : q < n := by omega
  clear hi
  obtain ⟨b, off, x, rfl, hb, hx, d0, d1, d2, d3, d4⟩ := HasHop.at _ _ _ _ _ _ h hq
  have hbw := Nat.lt_of_lt_of_le hb hB
  cases hr : revB x0
  · have HR := Lib.hid ((pIn_at (k := x0) hq hx.out).trans (if_neg (by simp [hr])))
    have HQ := Lib.hid ((pOut_at (k := x0) hq hx.out).trans (if_neg (by simp [hr])))
    go_enter Tryz.func112, Tryz.ntmps112
    go_wp2_with fail
    refine (implInYes _ _ _ _ (by omega) (by omega)).mono ?_
    rintro e w' ⟨rfl, rfl⟩
    go_wp2_with fail
    refine (implRev _ _).mono ?_
    rintro e w1 ⟨he, m1⟩
    rw [hr] at he
    subst he
    have k1 : ((w.alloc (Obj.cells #[Value.int .i64 x0, Value.int .i64 x1, Value.int .i64 x2, Value.slice (some ⟨b, off, none⟩) n c] 50)).alloc (Obj.cells #[Value.int .i64 x.nd, Value.int .i64 x.ing, Value.int .i64 x.eg, Value.int .i64 x.exp, Value.int .i64 x.mac] 53)).cell? ⟨w.heap.size + 1, 1, none⟩ = some (.int .i64 x.ing) := by simp [go_sem]
    have k2 : ((w.alloc (Obj.cells #[Value.int .i64 x0, Value.int .i64 x1, Value.int .i64 x2, Value.slice (some ⟨b, off, none⟩) n c] 50)).alloc (Obj.cells #[Value.int .i64 x.nd, Value.int .i64 x.ing, Value.int .i64 x.eg, Value.int .i64 x.exp, Value.int .i64 x.mac] 53)).cell? ⟨w.heap.size + 1, 2, none⟩ = some (.int .i64 x.eg) := by simp [go_sem]
    replace k1 := m1.cellAt k1
    replace k2 := m1.cellAt k2
    go_wp2_with fail
    go_quiet (fail)
    go_wp2_with fail
    refine bodyPost_ret (v := .tuple #[.int .i64 x.ing, .int .i64 x.eg]) (by simp [results, Tryz.results112, go_sem]) rfl ⟨ret_p HR.out HQ.out, ((M0.new (Obj.cells #[Value.int .i64 x.nd, Value.int .i64 x.ing, Value.int .i64 x.eg, Value.int .i64 x.exp, Value.int .i64 x.mac] 53)).trans m1).trans (Mk.drewN _ _)⟩
  · have HR := Lib.hid ((pIn_at (k := x0) hq hx.out).trans (if_pos hr))
    have HQ := Lib.hid ((pOut_at (k := x0) hq hx.out).trans (if_pos hr))
    go_enter Tryz.func112, Tryz.ntmps112
    go_wp2_with fail
    refine (implInYes _ _ _ _ (by omega) (by omega)).mono ?_
    rintro e w' ⟨rfl, rfl⟩
    go_wp2_with fail
    refine (implRev _ _).mono ?_
    rintro e w1 ⟨he, m1⟩
    rw [hr] at he
    subst he
    have k1 : ((w.alloc (Obj.cells #[Value.int .i64 x0, Value.int .i64 x1, Value.int .i64 x2, Value.slice (some ⟨b, off, none⟩) n c] 50)).alloc (Obj.cells #[Value.int .i64 x.nd, Value.int .i64 x.ing, Value.int .i64 x.eg, Value.int .i64 x.exp, Value.int .i64 x.mac] 53)).cell? ⟨w.heap.size + 1, 1, none⟩ = some (.int .i64 x.ing) := by simp [go_sem]
    have k2 : ((w.alloc (Obj.cells #[Value.int .i64 x0, Value.int .i64 x1, Value.int .i64 x2, Value.slice (some ⟨b, off, none⟩) n c] 50)).alloc (Obj.cells #[Value.int .i64 x.nd, Value.int .i64 x.ing, Value.int .i64 x.eg, Value.int .i64 x.exp, Value.int .i64 x.mac] 53)).cell? ⟨w.heap.size + 1, 2, none⟩ = some (.int .i64 x.eg) := by simp [go_sem]
    replace k1 := m1.cellAt k1
    replace k2 := m1.cellAt k2
    go_wp2_with fail
    go_quiet (fail)
    go_wp2_with fail
    refine bodyPost_ret (v := .tuple #[.int .i64 x.eg, .int .i64 x.ing]) (by simp [results, Tryz.results112, go_sem]) rfl ⟨ret_p HR.out HQ.out, ((M0.new (Obj.cells #[Value.int .i64 x.nd, Value.int .i64 x.ing, Value.int .i64 x.eg, Value.int .i64 x.exp, Value.int .i64 x.mac] 53)).trans m1).trans (Mk.drewN _ _)⟩

set_option maxRecDepth 100000 in
set_option maxHeartbeats 4000000 in
theorem implPIn (x0 x1 x2 : Int) (a : Option Addr) (n c B : Nat) (zs : List THop) (i : Int) (w : World) (h : HasHop w B a n zs) (hB : B ≤ w.heap.size) (hn : n ≤ 1048576) :
    Calls Tryz.prog 110 #[.agg #[.int .i64 x0, .int .i64 x1, .int .i64 x2, .slice a n c], .int .i64 i] w fun e w' => e = .returned (.int .i64 (pInV x0 zs n i)) ∧ Mk0 w w' := by
  have M0 := Mk.alloc w (Obj.cells #[Value.int .i64 x0, Value.int .i64 x1, Value.int .i64 x2, Value.slice a n c] 50)
  go_enter Tryz.func110, Tryz.ntmps110
  go_wp2_with fail
  refine (implDoors x0 x1 x2 a n c B zs i _ (h.mk M0 hB (.inr (Nat.le_refl _))) (Nat.le_trans hB M0.size) hn).mono ?_
  rintro e w1 ⟨rfl, m1⟩
  go_wp2_with fail
  go_ret
  exact ⟨rfl, M0.trans m1⟩

set_option maxRecDepth 100000 in
set_option maxHeartbeats 4000000 in
theorem implPOut (x0 x1 x2 : Int) (a : Option Addr) (n c B : Nat) (zs : List THop) (i : Int) (w : World) (h : HasHop w B a n zs) (hB : B ≤ w.heap.size) (hn : n ≤ 1048576) :
    Calls Tryz.prog 108 #[.agg #[.int .i64 x0, .int .i64 x1, .int .i64 x2, .slice a n c], .int .i64 i] w fun e w' => e = .returned (.int .i64 (pOutV x0 zs n i)) ∧ Mk0 w w' := by
  have M0 := Mk.alloc w (Obj.cells #[Value.int .i64 x0, Value.int .i64 x1, Value.int .i64 x2, Value.slice a n c] 50)
  go_enter Tryz.func108, Tryz.ntmps108
  go_wp2_with fail
  refine (implDoors x0 x1 x2 a n c B zs i _ (h.mk M0 hB (.inr (Nat.le_refl _))) (Nat.le_trans hB M0.size) hn).mono ?_
  rintro e w1 ⟨rfl, m1⟩
  go_wp2_with fail
  go_ret
  exact ⟨rfl, M0.trans m1⟩

set_option maxRecDepth 100000 in
set_option maxHeartbeats 4000000 in
theorem implPass (k b : Int) (x : THop) (w : World) : Calls Tryz.prog 98 #[.int .i64 k, .int .i64 b, .agg #[.int .i64 x.nd, .int .i64 x.ing, .int .i64 x.eg, .int .i64 x.exp, .int .i64 x.mac]] w fun e w' => e = .returned (.int .i64 (pass k b x.mac)) ∧ Mk0 w w' := by
  have M0 := Mk.alloc w (Obj.cells #[Value.int .i64 x.nd, Value.int .i64 x.ing, Value.int .i64 x.eg, Value.int .i64 x.exp, Value.int .i64 x.mac] 53)
  have k4 : (w.alloc (Obj.cells #[Value.int .i64 x.nd, Value.int .i64 x.ing, Value.int .i64 x.eg, Value.int .i64 x.exp, Value.int .i64 x.mac] 53)).cell? ⟨w.heap.size, 4, none⟩ = some (.int .i64 x.mac) := by simp [go_sem]
  cases hr : revB k
  · have HR := Lib.hid (pass_f (b := b) (m := x.mac) hr)
    go_enter Tryz.func98, Tryz.ntmps98
    go_wp2_with fail
    refine (implRev _ _).mono ?_
    rintro e w1 ⟨he, m1⟩
    rw [hr] at he
    subst he
    replace k4 := m1.cellAt k4
    go_wp2_with fail
    refine (implAddMod _ _ _).mono ?_
    rintro e w' ⟨rfl, rfl⟩
    go_wp2_with fail
    go_ret
    exact ⟨retI HR.out.symm, M0.trans m1⟩
  · have HR := Lib.hid (pass_t (b := b) (m := x.mac) hr)
    go_enter Tryz.func98, Tryz.ntmps98
    go_wp2_with fail
    refine (implRev _ _).mono ?_
    rintro e w1 ⟨he, m1⟩
    rw [hr] at he
    subst he
    replace k4 := m1.cellAt k4
    go_wp2_with fail
    refine (implSubMod _ _ _).mono ?_
    rintro e w' ⟨rfl, rfl⟩
    go_wp2_with fail
    go_ret
    exact ⟨retI HR.out.symm, M0.trans m1⟩

set_option maxRecDepth 100000 in
set_option maxHeartbeats 4000000 in
theorem specAfter (x0 x1 x2 : Int) (a : Option Addr) (n c B : Nat) (zs : List THop) (i : Int) (w : World) (h : HasHop w B a n zs) (hB : B ≤ w.heap.size) (hn : n ≤ 1048576) :
    Calls Tryz.prog 69 #[.agg #[.int .i64 x0, .int .i64 x1, .int .i64 x2, .slice a n c], .int .i64 i] w fun e w' => e = .returned (.int .i64 (afterV x0 x2 zs n i)) ∧ Mk0 w w' := by
  have M0 := Mk.alloc w (Obj.cells #[Value.int .i64 x0, Value.int .i64 x1, Value.int .i64 x2, Value.slice a n c] 50)
  by_cases hi : i < 0 ∨ (n : Int) < i
  · have HR := Lib.hid (after_out (k := x0) (b := x2) (zs := zs) hi)
    have HI := Lib.hid hi
    clear hi
    go_enter Tryz.func69, Tryz.ntmps69
    go_wp2_with fail
    refine (specInNo _ _ _ _ (by have := HI.out; omega)).mono ?_
    rintro e w' ⟨rfl, rfl⟩
    go_wp2_with fail
    go_ret
    exact ⟨retI HR.out.symm, M0⟩
  · obtain ⟨q, rfl⟩ : ∃ q : Nat, i = (q : Int) := ⟨i.toNat, by omega⟩
    have hq : q ≤ n := by omega
    clear hi
    have HR := Lib.hid (after_in (k := x0) (b := x2) (zs := zs) hq)
    go_enter Tryz.func69, Tryz.ntmps69
    go_wp2_with fail
    refine (specInYes _ _ _ _ (by omega) (by omega)).mono ?_
    rintro e w' ⟨rfl, rfl⟩
    go_wp2_with fail
    go_loopw [5, 6] (fun v j wr => ∃ k : Nat, k ≤ q ∧ j = .int .i64 k ∧ v = .int .i64 (passN x0 x2 zs k) ∧ Mk0 (w.alloc (Obj.cells #[Value.int .i64 x0, Value.int .i64 x1, Value.int .i64 x2, Value.slice a n c] 50)) wr) (fun _ j _ => q - (intOf j).toNat)
    case atStart => exact ⟨0, Nat.zero_le _, rfl, rfl, Mk.refl _ _ _⟩
    case round =>
      obtain ⟨k, hk, rfl, rfl, hM⟩ := hrel
      have hM' := M0.trans hM
      have k0 : (w.alloc (Obj.cells #[Value.int .i64 x0, Value.int .i64 x1, Value.int .i64 x2, Value.slice a n c] 50)).cell? ⟨w.heap.size, 0, none⟩ = some (.int .i64 x0) := by simp [go_sem]
      have k3 : (w.alloc (Obj.cells #[Value.int .i64 x0, Value.int .i64 x1, Value.int .i64 x2, Value.slice a n c] 50)).cell? ⟨w.heap.size, 3, none⟩ = some (.slice a n c) := by simp [go_sem]
      replace k0 := hM.cellAt k0
      replace k3 := hM.cellAt k3
      by_cases hlt : k < q
      · obtain ⟨b, off, x, rfl, hb, hx, d0, d1, d2, d3, d4⟩ := HasHop.at _ _ _ _ _ _ (h.mk hM' hB (.inr (Nat.le_refl _))) (Nat.lt_of_lt_of_le hlt hq)
        have hbr := World.block_lt_of_cell? _ _ d0
        simp only at hbr
        cases hr : revB x0
        · have E := Lib.hid (show passN x0 x2 zs (k + 1) = _ by rw [passN, ← hx.out, pass_f hr])
          go_wp2_with fail
          refine (specRev _ _).mono ?_
          rintro e w1 ⟨he, m1⟩
          rw [hr] at he
          subst he
          replace k0 := m1.cellAt k0
          replace k3 := m1.cellAt k3
          replace d0 := m1.cellAt d0
          replace d1 := m1.cellAt d1
          replace d2 := m1.cellAt d2
          replace d3 := m1.cellAt d3
          replace d4 := m1.cellAt d4
          have hb1 := Nat.lt_of_lt_of_le hbr m1.size
          go_wp2_with fail
          refine (specAddMod _ _ _).mono ?_
          rintro e w2 ⟨rfl, rfl⟩
          go_wp2_with fail
          go_roundw
          case rel => exact ⟨k + 1, by omega, by go_num, congrArg (Value.int .i64) E.out.symm, hM.trans m1⟩
          case measure => simp [intOf]; omega
        · have E := Lib.hid (show passN x0 x2 zs (k + 1) = _ by rw [passN, ← hx.out, pass_t hr])
          go_wp2_with fail
          refine (specRev _ _).mono ?_
          rintro e w1 ⟨he, m1⟩
          rw [hr] at he
          subst he
          replace k0 := m1.cellAt k0
          replace k3 := m1.cellAt k3
          replace d0 := m1.cellAt d0
          replace d1 := m1.cellAt d1
          replace d2 := m1.cellAt d2
          replace d3 := m1.cellAt d3
          replace d4 := m1.cellAt d4
          have hb1 := Nat.lt_of_lt_of_le hbr m1.size
          go_wp2_with fail
          refine (specSubMod _ _ _).mono ?_
          rintro e w2 ⟨rfl, rfl⟩
          go_wp2_with fail
          go_roundw
          case rel => exact ⟨k + 1, by omega, by go_num, congrArg (Value.int .i64) E.out.symm, hM.trans m1⟩
          case measure => simp [intOf]; omega
      · obtain rfl : k = q := by omega
        go_wp2_with fail
        go_ret
        exact ⟨retI HR.out.symm, hM'⟩

set_option maxRecDepth 100000 in
set_option maxHeartbeats 4000000 in
theorem implAfter (x0 x1 x2 : Int) (a : Option Addr) (n c B : Nat) (zs : List THop) (i : Int) (w : World) (h : HasHop w B a n zs) (hB : B ≤ w.heap.size) (hn : n ≤ 1048576) (hc : n ≤ c) :
    Calls Tryz.prog 71 #[.agg #[.int .i64 x0, .int .i64 x1, .int .i64 x2, .slice a n c], .int .i64 i] w fun e w' => e = .returned (.int .i64 (afterV x0 x2 zs n i)) ∧ Mk0 w w' := by
  have M0 := Mk.alloc w (Obj.cells #[Value.int .i64 x0, Value.int .i64 x1, Value.int .i64 x2, Value.slice a n c] 50)
  by_cases hi : i < 0 ∨ (n : Int) < i
  · have HR := Lib.hid (after_out (k := x0) (b := x2) (zs := zs) hi)
    have HI := Lib.hid hi
    clear hi
    go_enter Tryz.func71, Tryz.ntmps71
    go_wp2_with fail
    refine (implInNo _ _ _ _ (by have := HI.out; omega)).mono ?_
    rintro e w' ⟨rfl, rfl⟩
    go_wp2_with fail
    go_ret
    exact ⟨retI HR.out.symm, M0⟩
  · obtain ⟨q, rfl⟩ : ∃ q : Nat, i = (q : Int) := ⟨i.toNat, by omega⟩
    have hq : q ≤ n := by omega
    clear hi
    have HR := Lib.hid (after_in (k := x0) (b := x2) (zs := zs) hq)
    go_enter Tryz.func71, Tryz.ntmps71
    go_wp2_with fail
    refine (implInYes _ _ _ _ (by omega) (by omega)).mono ?_
    rintro e w' ⟨rfl, rfl⟩
    go_wp2_with fail
    go_loopw [5, 21] (fun v j wr => ∃ k : Nat, k ≤ q ∧ j = .int .i64 k ∧ v = .int .i64 (passN x0 x2 zs k) ∧ Mk0 (w.alloc (Obj.cells #[Value.int .i64 x0, Value.int .i64 x1, Value.int .i64 x2, Value.slice a n c] 50)) wr) (fun _ j _ => q - (intOf j).toNat)
    case atStart => exact ⟨0, Nat.zero_le _, rfl, rfl, Mk.refl _ _ _⟩
    case round =>
      obtain ⟨k, hk, rfl, rfl, hM⟩ := hrel
      have hM' := M0.trans hM
      have k0 : (w.alloc (Obj.cells #[Value.int .i64 x0, Value.int .i64 x1, Value.int .i64 x2, Value.slice a n c] 50)).cell? ⟨w.heap.size, 0, none⟩ = some (.int .i64 x0) := by simp [go_sem]
      have k3 : (w.alloc (Obj.cells #[Value.int .i64 x0, Value.int .i64 x1, Value.int .i64 x2, Value.slice a n c] 50)).cell? ⟨w.heap.size, 3, none⟩ = some (.slice a n c) := by simp [go_sem]
      replace k0 := hM.cellAt k0
      replace k3 := hM.cellAt k3
      by_cases hlt : k < q
      · obtain ⟨b, off, x, rfl, hb, hx, d0, d1, d2, d3, d4⟩ := HasHop.at _ _ _ _ _ _ (h.mk hM' hB (.inr (Nat.le_refl _))) (Nat.lt_of_lt_of_le hlt hq)
        have hbr := World.block_lt_of_cell? _ _ d0
        simp only at hbr
        have E := Lib.hid (show passN x0 x2 zs (k + 1) = pass x0 (passN x0 x2 zs k) x.mac by rw [passN, hx.out])
        have hbx := World.block_lt_of_cell? _ _ k0
        simp only at hbx
        go_wp2_with fail
        refine (implPass _ _ x _).mono ?_
        rintro e w2 ⟨rfl, m2⟩
        go_wp2_with fail
        go_roundw
        case rel => exact ⟨k + 1, by omega, by go_num, congrArg (Value.int .i64) E.out.symm, (hM.trans ((Mk.alloc _ _).trans m2))⟩
        case measure => simp [intOf]; omega
      · obtain rfl : k = q := by omega
        go_wp2_with fail
        go_ret
        exact ⟨retI HR.out.symm, hM'⟩

end Go.Proofs.YtifhhfndoifbhaaGreat
namespace Go.Proofs.YtifhhfndoifbhaaGreat
open Go.ChangeShapes Go.WideShapes Go.ChangeAt Go.RowKit
set_option linter.unusedVariables false
/-- The value that hop k's MAC covers. -/
def atV (k b : Int) (hs : List THop) (j : Nat) : Int := if revB k = true then passN k b hs (j + 1) else passN k b hs j
def vhT (zs : List TAS) (n : Nat) (t b : Int) (x : THop) : Bool := vhB zs n t b x.nd x.ing x.eg x.exp x.mac
def vpTo (zs : List TAS) (n0 : Nat) (k t b : Int) (hs : List THop) : Nat → Bool
  | 0 => true
  | j + 1 => vpTo zs n0 k t b hs j && vhT zs n0 t (atV k b hs j) (hs.getD j default)
theorem vpTo_stop {zs : List TAS} {n0 : Nat} {k t b : Int} {hs : List THop} {j : Nat} (h : vhT zs n0 t (atV k b hs j) (hs.getD j default) = false) : ∀ n, j < n → vpTo zs n0 k t b hs n = false
  | 0, hk => absurd hk (by omega)
  | n + 1, hk => by
    rw [vpTo]
    by_cases e : j = n
    · subst e; rw [h]; simp
    · rw [vpTo_stop h n (by omega)]; rfl
theorem vpTo_go {zs : List TAS} {n0 : Nat} {k t b : Int} {hs : List THop} {j : Nat} (h0 : vpTo zs n0 k t b hs j = true) (h : vhT zs n0 t (atV k b hs j) (hs.getD j default) = true) : vpTo zs n0 k t b hs (j + 1) = true := by
  rw [vpTo, h0, h]; rfl
theorem addM_fits (b s : Int) : (Lit.int .i64 (addM b s)).wf = true := by
  have e1 : IntKind.i64.min = -9223372036854775808 := by decide
  have e2 : IntKind.i64.max = 9223372036854775807 := by decide
  simp only [Lit.wf, Bool.and_eq_true, decide_eq_true_eq]
  rw [e1, e2]
  unfold addM
  split <;> omega
theorem subM_fits (b s : Int) : (Lit.int .i64 (subM b s)).wf = true := by
  have e1 : IntKind.i64.min = -9223372036854775808 := by decide
  have e2 : IntKind.i64.max = 9223372036854775807 := by decide
  simp only [Lit.wf, Bool.and_eq_true, decide_eq_true_eq]
  rw [e1, e2]
  unfold subM
  split <;> omega
theorem pass_fits (k b m : Int) : (Lit.int .i64 (pass k b m)).wf = true := by
  unfold pass; split
  · exact subM_fits _ _
  · exact addM_fits _ _
theorem passN_fits {k b : Int} (hb : (Lit.int .i64 b).wf = true) (hs : List THop) : ∀ j, (Lit.int .i64 (passN k b hs j)).wf = true
  | 0 => hb
  | j + 1 => pass_fits _ _ _
theorem atV_fits {k b : Int} (hb : (Lit.int .i64 b).wf = true) (hs : List THop) (j : Nat) : (Lit.int .i64 (atV k b hs j)).wf = true := by
  unfold atV; split <;> exact passN_fits hb hs _
theorem hopfit {hs : List THop} {n j : Nat} (hl : hs.length = n) (hj : j < n) (hf : ∀ y ∈ hs, THop.fits y) {x : THop} (hx : x = hs.getD j default) : THop.fits x := by
  subst hx
  have : hs.getD j default ∈ hs := by
    rw [List.getD_eq_getElem?_getD, List.getElem?_eq_getElem (by omega)]
    exact List.getElem_mem _
  exact hf _ this
theorem hopL_fits {t b : Int} (ht : (Lit.int .i64 t).wf = true) (hb : (Lit.int .i64 b).wf = true) {x : THop} (hx : THop.fits x) : ∀ z ∈ hopL t b x.nd x.ing x.eg x.exp, (Lit.int .i64 z).wf = true :=
  hop_fits ht hb hx.1 hx.2.1 hx.2.2.1 hx.2.2.2.1

set_option maxRecDepth 100000 in
set_option maxHeartbeats 4000000 in
theorem specAtV (x0 x1 x2 : Int) (a : Option Addr) (n c B : Nat) (hs : List THop) (j : Nat) (w : World) (h : HasHop w B a n hs) (hB : B ≤ w.heap.size) (hn : n ≤ 1048576) (hj : j < n) :
    Calls Tryz.prog 57 #[.agg #[.int .i64 x0, .int .i64 x1, .int .i64 x2, .slice a n c], .int .i64 j] w fun e w' => e = .returned (.int .i64 (atV x0 x2 hs j)) ∧ Mk0 w w' := by
  have M0 := Mk.alloc w (Obj.cells #[Value.int .i64 x0, Value.int .i64 x1, Value.int .i64 x2, Value.slice a n c] 50)
  have k0 : (w.alloc (Obj.cells #[Value.int .i64 x0, Value.int .i64 x1, Value.int .i64 x2, Value.slice a n c] 50)).cell? ⟨w.heap.size, 0, none⟩ = some (.int .i64 x0) := by simp [go_sem]
  have k1 : (w.alloc (Obj.cells #[Value.int .i64 x0, Value.int .i64 x1, Value.int .i64 x2, Value.slice a n c] 50)).cell? ⟨w.heap.size, 1, none⟩ = some (.int .i64 x1) := by simp [go_sem]
  have k2 : (w.alloc (Obj.cells #[Value.int .i64 x0, Value.int .i64 x1, Value.int .i64 x2, Value.slice a n c] 50)).cell? ⟨w.heap.size, 2, none⟩ = some (.int .i64 x2) := by simp [go_sem]
  have k3 : (w.alloc (Obj.cells #[Value.int .i64 x0, Value.int .i64 x1, Value.int .i64 x2, Value.slice a n c] 50)).cell? ⟨w.heap.size, 3, none⟩ = some (.slice a n c) := by simp [go_sem]
  cases hr : revB x0
  · have HR := Lib.hid (show atV x0 x2 hs j = afterV x0 x2 hs n (((j : Nat)) : Int) by rw [after_in (by omega)]; unfold atV; rw [hr]; rfl)
    go_enter Tryz.func57, Tryz.ntmps57
    go_wp2_with fail
    refine (specRev _ _).mono ?_
    rintro e w1 ⟨he, m1⟩
    rw [hr] at he
    subst he
    replace k0 := m1.cellAt k0
    replace k1 := m1.cellAt k1
    replace k2 := m1.cellAt k2
    replace k3 := m1.cellAt k3
    have M1 := M0.trans m1
    have hg := World.block_lt_of_cell? _ _ k0
    simp only at hg
    go_wp2_with fail
    refine (specAfter x0 x1 x2 a n c B hs _ _ (h.mk M1 hB (.inr (Nat.le_refl _))) (Nat.le_trans hB M1.size) hn).mono ?_
    rintro e w2 ⟨rfl, m2⟩
    go_wp2_with fail
    go_ret
    exact ⟨retI HR.out.symm, M1.trans m2⟩
  · have HR := Lib.hid (show atV x0 x2 hs j = afterV x0 x2 hs n (((j + 1 : Nat)) : Int) by rw [after_in (by omega)]; unfold atV; rw [hr]; rfl)
    go_enter Tryz.func57, Tryz.ntmps57
    go_wp2_with fail
    refine (specRev _ _).mono ?_
    rintro e w1 ⟨he, m1⟩
    rw [hr] at he
    subst he
    replace k0 := m1.cellAt k0
    replace k1 := m1.cellAt k1
    replace k2 := m1.cellAt k2
    replace k3 := m1.cellAt k3
    have M1 := M0.trans m1
    have hg := World.block_lt_of_cell? _ _ k0
    simp only at hg
    go_wp2_with fail
    have HR2 := Lib.hid (show atV x0 x2 hs j = afterV x0 x2 hs n ((j : Int) + 1) by rw [HR.out]; congr 1)
    clear HR
    refine (specAfter x0 x1 x2 a n c B hs ((j : Int) + 1) _ (h.mk M1 hB (.inr (Nat.le_refl _))) (Nat.le_trans hB M1.size) hn).mono ?_
    rintro e w2 ⟨rfl, m2⟩
    go_wp2_with fail
    go_ret
    exact ⟨retI HR2.out.symm, M1.trans m2⟩

set_option maxRecDepth 100000 in
set_option maxHeartbeats 4000000 in
theorem implTrav (a0 a1 : Option Addr) (n0 c0 n1 c1 B : Nat) (zs : List TAS) (k t b : Int) (x : THop) (w : World) (h : HasAS w B a0 n0 zs) (hB : B ≤ w.heap.size) (hn : n0 ≤ 1048576) (hz : ∀ y ∈ zs, TAS.fits y) (ht : (Lit.int .i64 t).wf = true) (hb : (Lit.int .i64 b).wf = true) (hx : THop.fits x) :
    Calls Tryz.prog 66 #[.agg #[.slice a0 n0 c0, .slice a1 n1 c1], .int .i64 k, .int .i64 t, .int .i64 b, .agg #[.int .i64 x.nd, .int .i64 x.ing, .int .i64 x.eg, .int .i64 x.exp, .int .i64 x.mac]] w fun e w' => e = .returned (.tuple #[.int .i64 (pass k b x.mac), .bool (vhT zs n0 t (if revB k = true then pass k b x.mac else b) x)]) ∧ Mk0 w w' := by
  have M0 := (Mk.alloc w (Obj.cells #[Value.slice a0 n0 c0, Value.slice a1 n1 c1] 35)).new (Obj.cells #[Value.int .i64 x.nd, Value.int .i64 x.ing, Value.int .i64 x.eg, Value.int .i64 x.exp, Value.int .i64 x.mac] 53)
  have HT := Lib.hid (hopL_fits ht (pass_fits k b x.mac) hx)
  have HF := Lib.hid (hopL_fits ht hb hx)
  have HZ := Lib.hid hz
  clear hz hx
  have k0 : ((w.alloc (Obj.cells #[Value.slice a0 n0 c0, Value.slice a1 n1 c1] 35)).alloc (Obj.cells #[Value.int .i64 x.nd, Value.int .i64 x.ing, Value.int .i64 x.eg, Value.int .i64 x.exp, Value.int .i64 x.mac] 53)).cell? ⟨w.heap.size, 0, none⟩ = some (.slice a0 n0 c0) := by simp [go_sem]
  have k1 : ((w.alloc (Obj.cells #[Value.slice a0 n0 c0, Value.slice a1 n1 c1] 35)).alloc (Obj.cells #[Value.int .i64 x.nd, Value.int .i64 x.ing, Value.int .i64 x.eg, Value.int .i64 x.exp, Value.int .i64 x.mac] 53)).cell? ⟨w.heap.size, 1, none⟩ = some (.slice a1 n1 c1) := by simp [go_sem]
  have j0 : ((w.alloc (Obj.cells #[Value.slice a0 n0 c0, Value.slice a1 n1 c1] 35)).alloc (Obj.cells #[Value.int .i64 x.nd, Value.int .i64 x.ing, Value.int .i64 x.eg, Value.int .i64 x.exp, Value.int .i64 x.mac] 53)).cell? ⟨w.heap.size + 1, 0, none⟩ = some (.int .i64 x.nd) := by simp [go_sem]
  have j1 : ((w.alloc (Obj.cells #[Value.slice a0 n0 c0, Value.slice a1 n1 c1] 35)).alloc (Obj.cells #[Value.int .i64 x.nd, Value.int .i64 x.ing, Value.int .i64 x.eg, Value.int .i64 x.exp, Value.int .i64 x.mac] 53)).cell? ⟨w.heap.size + 1, 1, none⟩ = some (.int .i64 x.ing) := by simp [go_sem]
  have j2 : ((w.alloc (Obj.cells #[Value.slice a0 n0 c0, Value.slice a1 n1 c1] 35)).alloc (Obj.cells #[Value.int .i64 x.nd, Value.int .i64 x.ing, Value.int .i64 x.eg, Value.int .i64 x.exp, Value.int .i64 x.mac] 53)).cell? ⟨w.heap.size + 1, 2, none⟩ = some (.int .i64 x.eg) := by simp [go_sem]
  have j3 : ((w.alloc (Obj.cells #[Value.slice a0 n0 c0, Value.slice a1 n1 c1] 35)).alloc (Obj.cells #[Value.int .i64 x.nd, Value.int .i64 x.ing, Value.int .i64 x.eg, Value.int .i64 x.exp, Value.int .i64 x.mac] 53)).cell? ⟨w.heap.size + 1, 3, none⟩ = some (.int .i64 x.exp) := by simp [go_sem]
  have j4 : ((w.alloc (Obj.cells #[Value.slice a0 n0 c0, Value.slice a1 n1 c1] 35)).alloc (Obj.cells #[Value.int .i64 x.nd, Value.int .i64 x.ing, Value.int .i64 x.eg, Value.int .i64 x.exp, Value.int .i64 x.mac] 53)).cell? ⟨w.heap.size + 1, 4, none⟩ = some (.int .i64 x.mac) := by simp [go_sem]
  cases hr : revB k
  · go_enter Tryz.func66, Tryz.ntmps66
    go_wp2_with fail
    refine (implPass k b x _).mono ?_
    rintro e w1 ⟨rfl, m1⟩
    replace k0 := m1.cellAt k0
    replace k1 := m1.cellAt k1
    replace j0 := m1.cellAt j0
    replace j1 := m1.cellAt j1
    replace j2 := m1.cellAt j2
    replace j3 := m1.cellAt j3
    replace j4 := m1.cellAt j4
    have M1 := M0.trans m1
    have hg := World.block_lt_of_cell? _ _ k0
    have hg' := World.block_lt_of_cell? _ _ j0
    simp only at hg hg'
    go_wp2_with fail
    refine (implRev _ _).mono ?_
    rintro e w2 ⟨he, m2⟩
    rw [hr] at he
    subst he
    replace k0 := m2.cellAt k0
    replace k1 := m2.cellAt k1
    replace j0 := m2.cellAt j0
    replace j1 := m2.cellAt j1
    replace j2 := m2.cellAt j2
    replace j3 := m2.cellAt j3
    replace j4 := m2.cellAt j4
    have M2 := M1.trans m2
    have hg2 := World.block_lt_of_cell? _ _ k0
    have hg2' := World.block_lt_of_cell? _ _ j0
    simp only at hg2 hg2'
    go_wp2_with fail
    refine (implVerify a0 a1 n0 c0 n1 c1 B zs t b x.nd x.ing x.eg x.exp x.mac _ (h.mk M2 hB (.inr (Nat.le_refl _))) (Nat.le_trans hB M2.size) hn HZ.out HF.out).mono ?_
    rintro e w3 ⟨rfl, m3⟩
    go_wp2_with fail
    refine bodyPost_ret (v := .tuple #[.int .i64 (pass k b x.mac), .bool (vhB zs n0 t b x.nd x.ing x.eg x.exp x.mac)]) (by simp [results, Tryz.results66, go_sem]) rfl ⟨rfl, M2.trans m3⟩
  · go_enter Tryz.func66, Tryz.ntmps66
    go_wp2_with fail
    refine (implPass k b x _).mono ?_
    rintro e w1 ⟨rfl, m1⟩
    replace k0 := m1.cellAt k0
    replace k1 := m1.cellAt k1
    replace j0 := m1.cellAt j0
    replace j1 := m1.cellAt j1
    replace j2 := m1.cellAt j2
    replace j3 := m1.cellAt j3
    replace j4 := m1.cellAt j4
    have M1 := M0.trans m1
    have hg := World.block_lt_of_cell? _ _ k0
    have hg' := World.block_lt_of_cell? _ _ j0
    simp only at hg hg'
    go_wp2_with fail
    refine (implRev _ _).mono ?_
    rintro e w2 ⟨he, m2⟩
    rw [hr] at he
    subst he
    replace k0 := m2.cellAt k0
    replace k1 := m2.cellAt k1
    replace j0 := m2.cellAt j0
    replace j1 := m2.cellAt j1
    replace j2 := m2.cellAt j2
    replace j3 := m2.cellAt j3
    replace j4 := m2.cellAt j4
    have M2 := M1.trans m2
    have hg2 := World.block_lt_of_cell? _ _ k0
    have hg2' := World.block_lt_of_cell? _ _ j0
    simp only at hg2 hg2'
    go_wp2_with fail
    refine (implVerify a0 a1 n0 c0 n1 c1 B zs t (pass k b x.mac) x.nd x.ing x.eg x.exp x.mac _ (h.mk M2 hB (.inr (Nat.le_refl _))) (Nat.le_trans hB M2.size) hn HZ.out HT.out).mono ?_
    rintro e w3 ⟨rfl, m3⟩
    go_wp2_with fail
    refine bodyPost_ret (v := .tuple #[.int .i64 (pass k b x.mac), .bool (vhB zs n0 t (pass k b x.mac) x.nd x.ing x.eg x.exp x.mac)]) (by simp [results, Tryz.results66, go_sem]) rfl ⟨rfl, M2.trans m3⟩

set_option maxRecDepth 100000 in
set_option maxHeartbeats 4000000 in
theorem implVPart (a0 a1 : Option Addr) (n0 c0 n1 c1 B : Nat) (zs : List TAS) (x0 x1 x2 : Int) (a : Option Addr) (n c B' : Nat) (hs : List THop) (w : World) (h : HasAS w B a0 n0 zs) (h' : HasHop w B' a n hs) (hB : B ≤ w.heap.size) (hB' : B' ≤ w.heap.size) (hn : n0 ≤ 1048576) (hn' : n ≤ 1048576) (hz : ∀ y ∈ zs, TAS.fits y) (ht : (Lit.int .i64 x1).wf = true) (hb : (Lit.int .i64 x2).wf = true) (hf : ∀ y ∈ hs, THop.fits y) :
    Calls Tryz.prog 44 #[.agg #[.slice a0 n0 c0, .slice a1 n1 c1], .agg #[.int .i64 x0, .int .i64 x1, .int .i64 x2, .slice a n c]] w fun e w' => e = .returned (.bool (vpTo zs n0 x0 x1 x2 hs n)) ∧ Mk0 w w' := by
  have M0 := (Mk.alloc w (Obj.cells #[Value.slice a0 n0 c0, Value.slice a1 n1 c1] 35)).new (Obj.cells #[Value.int .i64 x0, Value.int .i64 x1, Value.int .i64 x2, Value.slice a n c] 50)
  have HZ := Lib.hid hz
  have HFF := Lib.hid hf
  clear hz hf
  go_enter Tryz.func44, Tryz.ntmps44
  go_wp2_with fail
  go_loopw [4, 5, 14] (fun r v i wr => r = .bool false ∧ ∃ k : Nat, k ≤ n ∧ i = .int .i64 k ∧ v = .int .i64 (passN x0 x2 hs k) ∧ Hid (vpTo zs n0 x0 x1 x2 hs k = true) ∧ Mk0 ((w.alloc (Obj.cells #[Value.slice a0 n0 c0, Value.slice a1 n1 c1] 35)).alloc (Obj.cells #[Value.int .i64 x0, Value.int .i64 x1, Value.int .i64 x2, Value.slice a n c] 50)) wr) (fun _ _ i _ => n - (intOf i).toNat)
  case atStart => exact ⟨rfl, 0, Nat.zero_le _, rfl, rfl, rfl, Mk.refl _ _ _⟩
  case round =>
    obtain ⟨rfl, k, hk, rfl, rfl, hS, hM⟩ := hrel
    have hM' := M0.trans hM
    have k0 : ((w.alloc (Obj.cells #[Value.slice a0 n0 c0, Value.slice a1 n1 c1] 35)).alloc (Obj.cells #[Value.int .i64 x0, Value.int .i64 x1, Value.int .i64 x2, Value.slice a n c] 50)).cell? ⟨w.heap.size, 0, none⟩ = some (.slice a0 n0 c0) := by simp [go_sem]
    replace k0 := hM.cellAt k0
    have k1 : ((w.alloc (Obj.cells #[Value.slice a0 n0 c0, Value.slice a1 n1 c1] 35)).alloc (Obj.cells #[Value.int .i64 x0, Value.int .i64 x1, Value.int .i64 x2, Value.slice a n c] 50)).cell? ⟨w.heap.size, 1, none⟩ = some (.slice a1 n1 c1) := by simp [go_sem]
    replace k1 := hM.cellAt k1
    have j0 : ((w.alloc (Obj.cells #[Value.slice a0 n0 c0, Value.slice a1 n1 c1] 35)).alloc (Obj.cells #[Value.int .i64 x0, Value.int .i64 x1, Value.int .i64 x2, Value.slice a n c] 50)).cell? ⟨w.heap.size + 1, 0, none⟩ = some (.int .i64 x0) := by simp [go_sem]
    replace j0 := hM.cellAt j0
    have j1 : ((w.alloc (Obj.cells #[Value.slice a0 n0 c0, Value.slice a1 n1 c1] 35)).alloc (Obj.cells #[Value.int .i64 x0, Value.int .i64 x1, Value.int .i64 x2, Value.slice a n c] 50)).cell? ⟨w.heap.size + 1, 1, none⟩ = some (.int .i64 x1) := by simp [go_sem]
    replace j1 := hM.cellAt j1
    have j2 : ((w.alloc (Obj.cells #[Value.slice a0 n0 c0, Value.slice a1 n1 c1] 35)).alloc (Obj.cells #[Value.int .i64 x0, Value.int .i64 x1, Value.int .i64 x2, Value.slice a n c] 50)).cell? ⟨w.heap.size + 1, 2, none⟩ = some (.int .i64 x2) := by simp [go_sem]
    replace j2 := hM.cellAt j2
    have j3 : ((w.alloc (Obj.cells #[Value.slice a0 n0 c0, Value.slice a1 n1 c1] 35)).alloc (Obj.cells #[Value.int .i64 x0, Value.int .i64 x1, Value.int .i64 x2, Value.slice a n c] 50)).cell? ⟨w.heap.size + 1, 3, none⟩ = some (.slice a n c) := by simp [go_sem]
    replace j3 := hM.cellAt j3
    have y0 := World.block_lt_of_cell? _ _ k0
    have y1 := World.block_lt_of_cell? _ _ j0
    simp only at y0 y1
    by_cases hlt : k < n
    · obtain ⟨b, off, x, rfl, hb2, hx, d0, d1, d2, d3, d4⟩ := HasHop.at _ _ _ _ _ _ (h'.mk hM' hB' (.inr (Nat.le_refl _))) hlt
      have hbr := World.block_lt_of_cell? _ _ d0
      simp only at hbr
      have HXF := Lib.hid (hopfit h'.1 hlt HFF.out hx.out)
      have hB1 := Nat.le_trans hB hM'.size
      have hB1' := Nat.le_trans hB' hM'.size
      have E := Lib.hid (show passN x0 x2 hs (k + 1) = pass x0 (passN x0 x2 hs k) x.mac by rw [passN, hx.out])
      have HV := Lib.hid (show vhT zs n0 x1 (if revB x0 = true then pass x0 (passN x0 x2 hs k) x.mac else passN x0 x2 hs k) x = vhT zs n0 x1 (atV x0 x2 hs k) (hs.getD k default) by rw [← hx.out]; unfold atV; rw [E.out])
      have MX := Mk.alloc wr (Obj.cells #[Value.int .i64 x.nd, Value.int .i64 x.ing, Value.int .i64 x.eg, Value.int .i64 x.exp, Value.int .i64 x.mac] 53)
      have MY := hM'.trans MX
      cases he : vhT zs n0 x1 (atV x0 x2 hs k) (hs.getD k default)
      · have HE := Lib.hid (vpTo_stop he n hlt)
        replace HV := Lib.hid (HV.out.trans he)
        clear he
        go_wp2_with fail
        refine (implTrav a0 a1 n0 c0 n1 c1 B zs x0 x1 (passN x0 x2 hs k) x _ (h.mk MY hB (.inr (Nat.le_refl _))) (Nat.le_trans hB MY.size) hn HZ.out ht (passN_fits hb hs k) HXF.out).mono ?_
        rintro e w2 ⟨hv, m2⟩
        rw [HV.out] at hv
        subst hv
        go_wp2_with fail
        go_ret
        exact ⟨retB HE.out.symm, MY.trans m2⟩
      · have HE := Lib.hid (vpTo_go hS.out he)
        replace HV := Lib.hid (HV.out.trans he)
        clear he
        go_wp2_with fail
        refine (implTrav a0 a1 n0 c0 n1 c1 B zs x0 x1 (passN x0 x2 hs k) x _ (h.mk MY hB (.inr (Nat.le_refl _))) (Nat.le_trans hB MY.size) hn HZ.out ht (passN_fits hb hs k) HXF.out).mono ?_
        rintro e w2 ⟨hv, m2⟩
        rw [HV.out] at hv
        subst hv
        go_wp2_with fail
        go_roundw
        case rel => exact ⟨rfl, k + 1, by omega, by go_num, congrArg (Value.int .i64) E.out.symm, HE.out, hM.trans (MX.trans m2)⟩
        case measure => simp [intOf]; omega
    · obtain rfl : k = n := by omega
      go_wp2_with fail
      go_ret
      exact ⟨retB hS.out.symm, hM'⟩

set_option maxRecDepth 100000 in
set_option maxHeartbeats 4000000 in
theorem specVPart (a0 a1 : Option Addr) (n0 c0 n1 c1 B : Nat) (zs : List TAS) (x0 x1 x2 : Int) (a : Option Addr) (n c B' : Nat) (hs : List THop) (w : World) (h : HasAS w B a0 n0 zs) (h' : HasHop w B' a n hs) (hB : B ≤ w.heap.size) (hB' : B' ≤ w.heap.size) (hn : n0 ≤ 1048576) (hn' : n ≤ 1048576) (hz : ∀ y ∈ zs, TAS.fits y) (ht : (Lit.int .i64 x1).wf = true) (hb : (Lit.int .i64 x2).wf = true) (hf : ∀ y ∈ hs, THop.fits y) :
    Calls Tryz.prog 36 #[.agg #[.slice a0 n0 c0, .slice a1 n1 c1], .agg #[.int .i64 x0, .int .i64 x1, .int .i64 x2, .slice a n c]] w fun e w' => e = .returned (.bool (vpTo zs n0 x0 x1 x2 hs n)) ∧ Mk0 w w' := by
  have M0 := (Mk.alloc w (Obj.cells #[Value.slice a0 n0 c0, Value.slice a1 n1 c1] 35)).new (Obj.cells #[Value.int .i64 x0, Value.int .i64 x1, Value.int .i64 x2, Value.slice a n c] 50)
  have HZ := Lib.hid hz
  have HFF := Lib.hid hf
  clear hz hf
  go_enter Tryz.func36, Tryz.ntmps36
  go_wp2_with fail
  go_loopw [4, 5] (fun r i wr => r = .bool false ∧ ∃ k : Nat, k ≤ n ∧ i = .int .i64 k ∧ Hid (vpTo zs n0 x0 x1 x2 hs k = true) ∧ Mk0 ((w.alloc (Obj.cells #[Value.slice a0 n0 c0, Value.slice a1 n1 c1] 35)).alloc (Obj.cells #[Value.int .i64 x0, Value.int .i64 x1, Value.int .i64 x2, Value.slice a n c] 50)) wr) (fun _ i _ => n - (intOf i).toNat)
  case atStart => exact ⟨rfl, 0, Nat.zero_le _, rfl, rfl, Mk.refl _ _ _⟩
  case round =>
    obtain ⟨rfl, k, hk, rfl, hS, hM⟩ := hrel
    have hM' := M0.trans hM
    have k0 : ((w.alloc (Obj.cells #[Value.slice a0 n0 c0, Value.slice a1 n1 c1] 35)).alloc (Obj.cells #[Value.int .i64 x0, Value.int .i64 x1, Value.int .i64 x2, Value.slice a n c] 50)).cell? ⟨w.heap.size, 0, none⟩ = some (.slice a0 n0 c0) := by simp [go_sem]
    replace k0 := hM.cellAt k0
    have k1 : ((w.alloc (Obj.cells #[Value.slice a0 n0 c0, Value.slice a1 n1 c1] 35)).alloc (Obj.cells #[Value.int .i64 x0, Value.int .i64 x1, Value.int .i64 x2, Value.slice a n c] 50)).cell? ⟨w.heap.size, 1, none⟩ = some (.slice a1 n1 c1) := by simp [go_sem]
    replace k1 := hM.cellAt k1
    have j0 : ((w.alloc (Obj.cells #[Value.slice a0 n0 c0, Value.slice a1 n1 c1] 35)).alloc (Obj.cells #[Value.int .i64 x0, Value.int .i64 x1, Value.int .i64 x2, Value.slice a n c] 50)).cell? ⟨w.heap.size + 1, 0, none⟩ = some (.int .i64 x0) := by simp [go_sem]
    replace j0 := hM.cellAt j0
    have j1 : ((w.alloc (Obj.cells #[Value.slice a0 n0 c0, Value.slice a1 n1 c1] 35)).alloc (Obj.cells #[Value.int .i64 x0, Value.int .i64 x1, Value.int .i64 x2, Value.slice a n c] 50)).cell? ⟨w.heap.size + 1, 1, none⟩ = some (.int .i64 x1) := by simp [go_sem]
    replace j1 := hM.cellAt j1
    have j2 : ((w.alloc (Obj.cells #[Value.slice a0 n0 c0, Value.slice a1 n1 c1] 35)).alloc (Obj.cells #[Value.int .i64 x0, Value.int .i64 x1, Value.int .i64 x2, Value.slice a n c] 50)).cell? ⟨w.heap.size + 1, 2, none⟩ = some (.int .i64 x2) := by simp [go_sem]
    replace j2 := hM.cellAt j2
    have j3 : ((w.alloc (Obj.cells #[Value.slice a0 n0 c0, Value.slice a1 n1 c1] 35)).alloc (Obj.cells #[Value.int .i64 x0, Value.int .i64 x1, Value.int .i64 x2, Value.slice a n c] 50)).cell? ⟨w.heap.size + 1, 3, none⟩ = some (.slice a n c) := by simp [go_sem]
    replace j3 := hM.cellAt j3
    have y0 := World.block_lt_of_cell? _ _ k0
    have y1 := World.block_lt_of_cell? _ _ j0
    simp only at y0 y1
    by_cases hlt : k < n
    · obtain ⟨b, off, x, rfl, hb2, hx, d0, d1, d2, d3, d4⟩ := HasHop.at _ _ _ _ _ _ (h'.mk hM' hB' (.inr (Nat.le_refl _))) hlt
      have hbr := World.block_lt_of_cell? _ _ d0
      simp only at hbr
      have HXF := Lib.hid (hopfit h'.1 hlt HFF.out hx.out)
      have hB1 := Nat.le_trans hB hM'.size
      have hB1' := Nat.le_trans hB' hM'.size
      have eh : ∀ w', Mk0 wr w' → HasAS w' B a0 n0 zs := fun w' m => h.mk (hM'.trans m) hB (.inr (Nat.le_refl _))
      have ez : ∀ w', Mk0 wr w' → B ≤ w'.heap.size := fun w' m => Nat.le_trans hB1 m.size
      have eh' : ∀ w', Mk0 wr w' → HasHop w' B' (some ⟨b, off, none⟩) n hs := fun w' m => h'.mk (hM'.trans m) hB' (.inr (Nat.le_refl _))
      have ez' : ∀ w', Mk0 wr w' → B' ≤ w'.heap.size := fun w' m => Nat.le_trans hB1' m.size
      have ed0 : ∀ w', Mk0 wr w' → w'.cell? ⟨b, off + k * 5, none⟩ = some (.int .i64 x.nd) := fun w' m => m.cellAt d0
      have ed1 : ∀ w', Mk0 wr w' → w'.cell? ⟨b, off + k * 5 + 1, none⟩ = some (.int .i64 x.ing) := fun w' m => m.cellAt d1
      have ed2 : ∀ w', Mk0 wr w' → w'.cell? ⟨b, off + k * 5 + 2, none⟩ = some (.int .i64 x.eg) := fun w' m => m.cellAt d2
      have ed3 : ∀ w', Mk0 wr w' → w'.cell? ⟨b, off + k * 5 + 3, none⟩ = some (.int .i64 x.exp) := fun w' m => m.cellAt d3
      have ed4 : ∀ w', Mk0 wr w' → w'.cell? ⟨b, off + k * 5 + 4, none⟩ = some (.int .i64 x.mac) := fun w' m => m.cellAt d4
      have HV := Lib.hid (show vhB zs n0 x1 (atV x0 x2 hs k) x.nd x.ing x.eg x.exp x.mac = vhT zs n0 x1 (atV x0 x2 hs k) (hs.getD k default) by rw [← hx.out]; rfl)
      have HLF := Lib.hid (hopL_fits ht (atV_fits (k := x0) hb hs k) HXF.out)
      cases he : vhT zs n0 x1 (atV x0 x2 hs k) (hs.getD k default)
      · have HE := Lib.hid (vpTo_stop he n hlt)
        replace HV := Lib.hid (HV.out.trans he)
        clear he
        go_wp2_with fail
        go_region_held3 (fun w' => Mk0 wr w' ∧ w'.cell? ⟨w.heap.size, 0, none⟩ = some (.slice a0 n0 c0) ∧ w'.cell? ⟨w.heap.size, 1, none⟩ = some (.slice a1 n1 c1) ∧ w'.cell? ⟨w.heap.size + 1, 0, none⟩ = some (.int .i64 x0) ∧ w'.cell? ⟨w.heap.size + 1, 1, none⟩ = some (.int .i64 x1) ∧ w'.cell? ⟨w.heap.size + 1, 2, none⟩ = some (.int .i64 x2) ∧ w'.cell? ⟨w.heap.size + 1, 3, none⟩ = some (.slice (some ⟨b, off, none⟩) n c) ∧ w'.cell? ⟨b, off + k * 5, none⟩ = some (.int .i64 x.nd) ∧ w'.cell? ⟨b, off + k * 5 + 1, none⟩ = some (.int .i64 x.ing) ∧ w'.cell? ⟨b, off + k * 5 + 2, none⟩ = some (.int .i64 x.eg) ∧ w'.cell? ⟨b, off + k * 5 + 3, none⟩ = some (.int .i64 x.exp) ∧ w'.cell? ⟨b, off + k * 5 + 4, none⟩ = some (.int .i64 x.mac)) (first | exact ⟨Mk.drew1 _, k0, k1, j0, j1, j2, j3, d0, d1, d2, d3, d4⟩ | (obtain ⟨s0, s1, s2, s3, s4, s5, s6, s7, s8, s9, s10, s11⟩ := ‹Mk0 wr _ ∧ _›; exact ⟨s0.trans mm, mm.cellAt s1, mm.cellAt s2, mm.cellAt s3, mm.cellAt s4, mm.cellAt s5, mm.cellAt s6, mm.cellAt s7, mm.cellAt s8, mm.cellAt s9, mm.cellAt s10, mm.cellAt s11⟩)) (first | (go_at_call 57; refine (specAtV x0 x1 x2 (some ⟨b, off, none⟩) n c B' hs k _ (eh' _ (‹Mk0 wr _ ∧ _›).1) (ez' _ (‹Mk0 wr _ ∧ _›).1) hn' hlt).mono ?_; rintro e wa ⟨rfl, mm⟩) | (go_at_call 56; refine (specVerify a0 a1 n0 c0 n1 c1 B zs x1 (atV x0 x2 hs k) x.nd x.ing x.eg x.exp x.mac _ (eh _ (‹Mk0 wr _ ∧ _›).1) (ez _ (‹Mk0 wr _ ∧ _›).1) hn HZ.out HLF.out).mono ?_; rintro e wb ⟨hv, mm⟩; rw [HV.out] at hv; subst hv))
        have m6 := (‹Mk0 wr _ ∧ _›).1
        clear k0 k1 j0 j1 j2 j3 d0 d1 d2 d3 d4
        refine ‹∀ (a : Act) (w : World), _ → _› _ _ ?_
        go_wp2_with fail
        go_ret
        exact ⟨retB HE.out.symm, hM'.trans m6⟩
      · have HE := Lib.hid (vpTo_go hS.out he)
        replace HV := Lib.hid (HV.out.trans he)
        clear he
        go_wp2_with fail
        go_region_held3 (fun w' => Mk0 wr w' ∧ w'.cell? ⟨w.heap.size, 0, none⟩ = some (.slice a0 n0 c0) ∧ w'.cell? ⟨w.heap.size, 1, none⟩ = some (.slice a1 n1 c1) ∧ w'.cell? ⟨w.heap.size + 1, 0, none⟩ = some (.int .i64 x0) ∧ w'.cell? ⟨w.heap.size + 1, 1, none⟩ = some (.int .i64 x1) ∧ w'.cell? ⟨w.heap.size + 1, 2, none⟩ = some (.int .i64 x2) ∧ w'.cell? ⟨w.heap.size + 1, 3, none⟩ = some (.slice (some ⟨b, off, none⟩) n c) ∧ w'.cell? ⟨b, off + k * 5, none⟩ = some (.int .i64 x.nd) ∧ w'.cell? ⟨b, off + k * 5 + 1, none⟩ = some (.int .i64 x.ing) ∧ w'.cell? ⟨b, off + k * 5 + 2, none⟩ = some (.int .i64 x.eg) ∧ w'.cell? ⟨b, off + k * 5 + 3, none⟩ = some (.int .i64 x.exp) ∧ w'.cell? ⟨b, off + k * 5 + 4, none⟩ = some (.int .i64 x.mac)) (first | exact ⟨Mk.drew1 _, k0, k1, j0, j1, j2, j3, d0, d1, d2, d3, d4⟩ | (obtain ⟨s0, s1, s2, s3, s4, s5, s6, s7, s8, s9, s10, s11⟩ := ‹Mk0 wr _ ∧ _›; exact ⟨s0.trans mm, mm.cellAt s1, mm.cellAt s2, mm.cellAt s3, mm.cellAt s4, mm.cellAt s5, mm.cellAt s6, mm.cellAt s7, mm.cellAt s8, mm.cellAt s9, mm.cellAt s10, mm.cellAt s11⟩)) (first | (go_at_call 57; refine (specAtV x0 x1 x2 (some ⟨b, off, none⟩) n c B' hs k _ (eh' _ (‹Mk0 wr _ ∧ _›).1) (ez' _ (‹Mk0 wr _ ∧ _›).1) hn' hlt).mono ?_; rintro e wa ⟨rfl, mm⟩) | (go_at_call 56; refine (specVerify a0 a1 n0 c0 n1 c1 B zs x1 (atV x0 x2 hs k) x.nd x.ing x.eg x.exp x.mac _ (eh _ (‹Mk0 wr _ ∧ _›).1) (ez _ (‹Mk0 wr _ ∧ _›).1) hn HZ.out HLF.out).mono ?_; rintro e wb ⟨hv, mm⟩; rw [HV.out] at hv; subst hv))
        have m6 := (‹Mk0 wr _ ∧ _›).1
        clear k0 k1 j0 j1 j2 j3 d0 d1 d2 d3 d4
        refine ‹∀ (a : Act) (w : World), _ → _› _ _ ?_
        go_wp2_with fail
        go_roundw
        case rel => exact ⟨rfl, k + 1, by omega, by go_num, HE.out, hM.trans m6⟩
        case measure => simp [intOf]; omega
    · obtain rfl : k = n := by omega
      go_wp2_with fail
      go_ret
      exact ⟨retB hS.out.symm, hM'⟩

end Go.Proofs.YtifhhfndoifbhaaGreat
namespace Go.Proofs.YtifhhfndoifbhaaGreat
open Go Go.RowKit
set_option linter.unusedVariables false
def FillP (w : World) (b N : Nat) (p : Nat → Prop) (f : Nat → Value) : Prop := ∀ j, j < N → ∃ v, w.cell? ⟨b, j, none⟩ = some v ∧ w.frozen? ⟨b, j, none⟩ = false ∧ (p j → v = f j)
theorem Fill.toP {w : World} {b N : Nat} {f g : Nat → Value} (h : Fill w b 0 N 0 f) : FillP w b N (fun _ => False) g := fun j hj => by
  obtain ⟨v, h1, h2, _⟩ := h j hj
  rw [Nat.zero_add] at h1 h2
  exact ⟨v, h1, h2, fun h => h.elim⟩
theorem FillP.set {w : World} {b N : Nat} {p : Nat → Prop} {f : Nat → Value} (h : FillP w b N p f) {m : Nat} (hm : m < N) {u : Value} (hu : u = f m) : FillP (w.setCell ⟨b, m, none⟩ u) b N (fun j => p j ∨ j = m) f := by
  intro j hj
  obtain ⟨v, h1, h2, h3⟩ := h j hj
  by_cases e : j = m
  · subst e
    exact ⟨u, World.cell?_setCell_same _ _ _ h1, by rw [World.frozen?_setCell]; exact h2, fun _ => hu⟩
  · refine ⟨v, ?_, by rw [World.frozen?_setCell]; exact h2, fun hp => h3 (hp.resolve_right e)⟩
    rw [World.cell?_setCell_other _ _ _ _ (fun h => by simp only [Addr.mk.injEq] at h; omega)]
    exact h1
theorem FillP.any {w : World} {b N : Nat} {p : Nat → Prop} {f : Nat → Value} (h : FillP w b N p f) {j : Nat} (hj : j < N) : ∃ v, w.cell? ⟨b, j, none⟩ = some v ∧ w.frozen? ⟨b, j, none⟩ = false := by
  obtain ⟨v, h1, h2, _⟩ := h j hj
  exact ⟨v, h1, h2⟩
theorem FillP.mono {w : World} {b N : Nat} {p q : Nat → Prop} {f : Nat → Value} (h : FillP w b N p f) (hq : ∀ j, j < N → q j → p j) : FillP w b N q f := fun j hj => by
  obtain ⟨v, h1, h2, h3⟩ := h j hj
  exact ⟨v, h1, h2, fun hp => h3 (hq j hj hp)⟩
theorem FillP.keep {w w' : World} {b N : Nat} {p : Nat → Prop} {f : Nat → Value} (h : FillP w b N p f) (hm : Mk0 w w') : FillP w' b N p f := fun j hj => by
  obtain ⟨v, h1, h2, h3⟩ := h j hj
  exact ⟨v, hm.cellAt h1, hm.frozenAt h1 h2, h3⟩
theorem FillP.all {w : World} {b N : Nat} {f : Nat → Value} (h : FillP w b N (fun _ => True) f) : Fill w b 0 N N f := fun j hj => by
  obtain ⟨v, h1, h2, h3⟩ := h j hj
  rw [Nat.zero_add]
  exact ⟨v, h1, h2, fun _ => h3 trivial⟩
def turnL {α : Type} [Inhabited α] (g : α → α) (zs : List α) (n : Nat) : List α := (List.range n).map fun j => g (zs.getD (n - 1 - j) default)
theorem turnL_len {α : Type} [Inhabited α] (g : α → α) (zs : List α) (n : Nat) : (turnL g zs n).length = n := by simp [turnL]
theorem turnL_at {α : Type} [Inhabited α] (g : α → α) (zs : List α) (n j : Nat) (h : j < n) : (turnL g zs n).getD j default = g (zs.getD (n - 1 - j) default) := by
  simp [turnL, List.getD_eq_getElem?_getD, h]
theorem turnL_take {α : Type} [Inhabited α] (g : α → α) (zs : List α) (n k : Nat) (h : k < n) : (turnL g zs n).take (k + 1) = (turnL g zs n).take k ++ [g (zs.getD (n - 1 - k) default)] := by
  rw [List.take_succ_eq_append_getElem (by rw [turnL_len]; exact h)]
  congr 2
  simp [turnL]
end Go.Proofs.YtifhhfndoifbhaaGreat
