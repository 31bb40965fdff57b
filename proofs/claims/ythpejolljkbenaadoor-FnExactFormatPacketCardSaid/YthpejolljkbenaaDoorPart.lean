
/- Parts of a path: reversed kinds, the interfaces at a hop, the value behind i hops, of both sides. -/
import Derived.Test.YthpejolljkbenaaDoorCPathPart
import Derived.Test.YthpejolljkbenaaDoorRet
import Derived.Test.YthpejolljkbenaaDoorInR
import Derived.Test.YthpejolljkbenaaDoorModOps
import Derived.Deep.QuietTactic
import Derived.BigQuiet
namespace Go.Proofs.YthpejolljkbenaaDoor
open Go.ChangeShapes Go.WideShapes Go.ChangeAt Go.RowKit
set_option linter.unusedVariables false
def revB (k : Int) : Bool := (k == 1) || (k == 3)
def pInV (k : Int) (zs : List THop) (n : Nat) (i : Int) : Int := if 0 ≤ i ∧ i < n then (if revB k = true then (zs.getD i.toNat default).eg else (zs.getD i.toNat default).ing) else 0
def pOutV (k : Int) (zs : List THop) (n : Nat) (i : Int) : Int := if 0 ≤ i ∧ i < n then (if revB k = true then (zs.getD i.toNat default).ing else (zs.getD i.toNat default).eg) else 0
theorem pIn_out {k : Int} {zs : List THop} {n : Nat} {i : Int} (h : i < 0 ∨ (n : Int) ≤ i) : pInV k zs n i = 0 := if_neg (by omega)
theorem pOut_out {k : Int} {zs : List THop} {n : Nat} {i : Int} (h : i < 0 ∨ (n : Int) ≤ i) : pOutV k zs n i = 0 := if_neg (by omega)
theorem pIn_at {k : Int} {zs : List THop} {n q : Nat} {x : THop} (h : q < n) (hx : x = zs.getD q default) : pInV k zs n (q : Int) = if revB k = true then x.eg else x.ing := by
  subst hx; unfold pInV; rw [if_pos ⟨by omega, by omega⟩, show ((q : Nat) : Int).toNat = q by omega]
theorem pOut_at {k : Int} {zs : List THop} {n q : Nat} {x : THop} (h : q < n) (hx : x = zs.getD q default) : pOutV k zs n (q : Int) = if revB k = true then x.ing else x.eg := by
  subst hx; unfold pOutV; rw [if_pos ⟨by omega, by omega⟩, show ((q : Nat) : Int).toNat = q by omega]
def pass (k b m : Int) : Int := if revB k = true then subM b m else addM b m
def passN (k b : Int) (zs : List THop) : Nat → Int
  | 0 => b
  | j + 1 => pass k (passN k b zs j) (zs.getD j default).mac
def afterV (k b : Int) (zs : List THop) (n : Nat) (i : Int) : Int := if 0 ≤ i ∧ i ≤ n then passN k b zs i.toNat else 0
theorem after_in {k b : Int} {zs : List THop} {n q : Nat} (h : q ≤ n) : afterV k b zs n (q : Int) = passN k b zs q := by
  unfold afterV; rw [if_pos ⟨by omega, by omega⟩, show ((q : Nat) : Int).toNat = q by omega]
theorem after_out {k b : Int} {zs : List THop} {n : Nat} {i : Int} (h : i < 0 ∨ (n : Int) < i) : afterV k b zs n i = 0 := if_neg (by omega)
theorem pass_t {k b m : Int} (h : revB k = true) : pass k b m = subM b m := if_pos h
theorem pass_f {k b m : Int} (h : revB k = false) : pass k b m = addM b m := if_neg (by simp [h])

set_option maxRecDepth 100000 in
set_option maxHeartbeats 4000000 in
theorem specRev (k : Int) (w : World) : Calls Tryd.prog 81 #[.int .i64 k] w fun e w' => e = .returned (.bool (revB k)) ∧ Mk0 w w' := by
  by_cases h1 : k = 1
  · subst h1
    go_enter Tryd.func81, Tryd.ntmps81
    go_wp2
    go_ret
    exact ⟨rfl, Mk.refl _ _ _⟩
  · have n1 : (k == 1) = false := by simpa using h1
    clear h1
    cases h3 : (k == 3)
    all_goals (
      have HR := Lib.hid (show revB k = (false || _) by unfold revB; rw [n1, h3])
      go_enter Tryd.func81, Tryd.ntmps81
      go_wp2
      go_ret
      exact ⟨retB HR.out.symm, Mk.refl _ _ _⟩)

set_option maxRecDepth 100000 in
set_option maxHeartbeats 4000000 in
theorem kindIs1 (w : World) : Calls Tryd.prog 92 #[.int .i64 1] w fun e w' => e = .returned (.iface 150 (.agg #[])) ∧ Mk0 w w' := by
  go_enter Tryd.func92, Tryd.ntmps92
  go_wp2
  go_ret
  exact ⟨rfl, Mk.of_below (by go_grown)⟩

set_option maxRecDepth 100000 in
set_option maxHeartbeats 4000000 in
theorem kindIs2 (w : World) : Calls Tryd.prog 92 #[.int .i64 2] w fun e w' => e = .returned (.iface 158 (.agg #[])) ∧ Mk0 w w' := by
  go_enter Tryd.func92, Tryd.ntmps92
  go_wp2
  go_ret
  exact ⟨rfl, Mk.of_below (by go_grown)⟩

set_option maxRecDepth 100000 in
set_option maxHeartbeats 4000000 in
theorem kindIs3 (w : World) : Calls Tryd.prog 92 #[.int .i64 3] w fun e w' => e = .returned (.iface 151 (.agg #[])) ∧ Mk0 w w' := by
  go_enter Tryd.func92, Tryd.ntmps92
  go_wp2
  go_ret
  exact ⟨rfl, Mk.of_below (by go_grown)⟩

set_option maxRecDepth 100000 in
set_option maxHeartbeats 4000000 in
theorem kindIs4 (w : World) : Calls Tryd.prog 92 #[.int .i64 4] w fun e w' => e = .returned (.iface 159 (.agg #[])) ∧ Mk0 w w' := by
  go_enter Tryd.func92, Tryd.ntmps92
  go_wp2
  go_ret
  exact ⟨rfl, Mk.of_below (by go_grown)⟩

set_option maxRecDepth 100000 in
set_option maxHeartbeats 4000000 in
theorem kindIs0 (k : Int) (w : World) (n1 : (k == 1) = false) (n2 : (k == 2) = false) (n3 : (k == 3) = false) (n4 : (k == 4) = false) : Calls Tryd.prog 92 #[.int .i64 k] w fun e w' => e = .returned .nilIface ∧ Mk0 w w' := by
  go_enter Tryd.func92, Tryd.ntmps92
  go_wp2
  go_ret
  exact ⟨rfl, Mk.of_below (by go_grown)⟩

set_option maxRecDepth 100000 in
set_option maxHeartbeats 4000000 in
theorem implRev (k : Int) (w : World) : Calls Tryd.prog 88 #[.int .i64 k] w fun e w' => e = .returned (.bool (revB k)) ∧ Mk0 w w' := by
  by_cases h1 : k = 1
  · subst h1
    have q_upPart : ∀ w', (Instr.typeAssert (Value.iface 150 (.agg #[])) 147 150 true).run Tryd.prog w' = .ok (.tuple #[.agg #[], .bool true]) w' := fun _ => by kernel_rfl
    have q_reversedCorePart : ∀ w', (Instr.typeAssert (Value.iface 150 (.agg #[])) 147 151 true).run Tryd.prog w' = .ok (.tuple #[.agg #[], .bool false]) w' := fun _ => by kernel_rfl
    go_enter Tryd.func88, Tryd.ntmps88
    go_wp2_with fail
    refine (kindIs1 _).mono ?_
    rintro e w1 ⟨rfl, m1⟩
    go_wp2_with fail
    go_ret
    exact ⟨rfl, m1⟩
  by_cases h2 : k = 2
  · subst h2
    have q_upPart : ∀ w', (Instr.typeAssert (Value.iface 158 (.agg #[])) 147 150 true).run Tryd.prog w' = .ok (.tuple #[.agg #[], .bool false]) w' := fun _ => by kernel_rfl
    have q_reversedCorePart : ∀ w', (Instr.typeAssert (Value.iface 158 (.agg #[])) 147 151 true).run Tryd.prog w' = .ok (.tuple #[.agg #[], .bool false]) w' := fun _ => by kernel_rfl
    go_enter Tryd.func88, Tryd.ntmps88
    go_wp2_with fail
    refine (kindIs2 _).mono ?_
    rintro e w1 ⟨rfl, m1⟩
    go_wp2_with fail
    go_ret
    exact ⟨rfl, m1⟩
  by_cases h3 : k = 3
  · subst h3
    have q_upPart : ∀ w', (Instr.typeAssert (Value.iface 151 (.agg #[])) 147 150 true).run Tryd.prog w' = .ok (.tuple #[.agg #[], .bool false]) w' := fun _ => by kernel_rfl
    have q_reversedCorePart : ∀ w', (Instr.typeAssert (Value.iface 151 (.agg #[])) 147 151 true).run Tryd.prog w' = .ok (.tuple #[.agg #[], .bool true]) w' := fun _ => by kernel_rfl
    go_enter Tryd.func88, Tryd.ntmps88
    go_wp2_with fail
    refine (kindIs3 _).mono ?_
    rintro e w1 ⟨rfl, m1⟩
    go_wp2_with fail
    go_ret
    exact ⟨rfl, m1⟩
  by_cases h4 : k = 4
  · subst h4
    have q_upPart : ∀ w', (Instr.typeAssert (Value.iface 159 (.agg #[])) 147 150 true).run Tryd.prog w' = .ok (.tuple #[.agg #[], .bool false]) w' := fun _ => by kernel_rfl
    have q_reversedCorePart : ∀ w', (Instr.typeAssert (Value.iface 159 (.agg #[])) 147 151 true).run Tryd.prog w' = .ok (.tuple #[.agg #[], .bool false]) w' := fun _ => by kernel_rfl
    go_enter Tryd.func88, Tryd.ntmps88
    go_wp2_with fail
    refine (kindIs4 _).mono ?_
    rintro e w1 ⟨rfl, m1⟩
    go_wp2_with fail
    go_ret
    exact ⟨rfl, m1⟩
  have n1 : (k == 1) = false := by simpa using h1
  have n2 : (k == 2) = false := by simpa using h2
  have n3 : (k == 3) = false := by simpa using h3
  have n4 : (k == 4) = false := by simpa using h4
  have HR := Lib.hid (show revB k = false by unfold revB; rw [n1, n3]; rfl)
  clear h1 h2 h3 h4
  have q_upPart : ∀ w', (Instr.typeAssert Value.nilIface 147 150 true).run Tryd.prog w' = .ok (.tuple #[.agg #[], .bool false]) w' := fun _ => by kernel_rfl
  have q_reversedCorePart : ∀ w', (Instr.typeAssert Value.nilIface 147 151 true).run Tryd.prog w' = .ok (.tuple #[.agg #[], .bool false]) w' := fun _ => by kernel_rfl
  go_enter Tryd.func88, Tryd.ntmps88
  go_wp2_with fail
  refine (kindIs0 k _ n1 n2 n3 n4).mono ?_
  rintro e w1 ⟨rfl, m1⟩
  go_wp2_with fail
  go_ret
  exact ⟨retB HR.out.symm, m1⟩

theorem ret_p {a b c d : Int} (h : a = b) (k : c = d) : Ending.returned (.tuple #[.int .i64 b, .int .i64 d]) = .returned (.tuple #[.int .i64 a, .int .i64 c]) := by rw [h, k]

set_option maxRecDepth 100000 in
set_option maxHeartbeats 4000000 in
theorem specPIn (x0 x1 x2 : Int) (a : Option Addr) (n c B : Nat) (zs : List THop) (i : Int) (w : World) (h : HasHop w B a n zs) (hB : B ≤ w.heap.size) (hn : n ≤ 1048576) :
    Calls Tryd.prog 69 #[.agg #[.int .i64 x0, .int .i64 x1, .int .i64 x2, .slice a n c], .int .i64 i] w fun e w' => e = .returned (.int .i64 (pInV x0 zs n i)) ∧ Mk0 w w' := by
  have M0 := Mk.alloc w (Obj.cells #[Value.int .i64 x0, Value.int .i64 x1, Value.int .i64 x2, Value.slice a n c] 121)
  by_cases hi : i < 0 ∨ (n : Int) ≤ i
  · have HR := Lib.hid (pIn_out (k := x0) (zs := zs) hi)
    have HI := Lib.hid hi
    clear hi
    go_enter Tryd.func69, Tryd.ntmps69
    go_wp2_with fail
    refine (specInNo _ _ _ _ (by have := HI.out; omega)).mono ?_
    rintro e w' ⟨rfl, rfl⟩
    go_wp2_with fail
    go_ret
    exact ⟨retI HR.out.symm, M0⟩
  obtain ⟨q, rfl⟩ : ∃ q : Nat, i = (q : Int) := ⟨i.toNat, by omega⟩
  have hq : q < n := by omega
  clear hi
  obtain ⟨b, off, x, rfl, hb, hx, d0, d1, d2, d3, d4⟩ := HasHop.at _ _ _ _ _ _ h hq
  have hbw := Nat.lt_of_lt_of_le hb hB
  cases hr : revB x0
  · have HR := Lib.hid ((pIn_at (k := x0) hq hx.out).trans (if_neg (by simp [hr])))
    go_enter Tryd.func69, Tryd.ntmps69
    go_wp2_with fail
    refine (specInYes _ _ _ _ (by omega) (by omega)).mono ?_
    rintro e w' ⟨rfl, rfl⟩
    go_wp2_with fail
    refine (specRev _ _).mono ?_
    rintro e w1 ⟨he, m1⟩
    rw [hr] at he
    subst he
    have M1 := M0.trans m1
    have k3 : (w.alloc (Obj.cells #[Value.int .i64 x0, Value.int .i64 x1, Value.int .i64 x2, Value.slice (some ⟨b, off, none⟩) n c] 121)).cell? ⟨w.heap.size, 3, none⟩ = some (.slice (some ⟨b, off, none⟩) n c) := by simp [go_sem]
    replace k3 := m1.cellAt k3
    replace d0 := M1.cellAt d0
    replace d1 := M1.cellAt d1
    replace d2 := M1.cellAt d2
    replace d3 := M1.cellAt d3
    replace d4 := M1.cellAt d4
    have hb1 := Nat.lt_of_lt_of_le hbw M1.size
    go_wp2_with fail
    go_ret
    exact ⟨retI HR.out.symm, M1⟩
  · have HR := Lib.hid ((pIn_at (k := x0) hq hx.out).trans (if_pos hr))
    go_enter Tryd.func69, Tryd.ntmps69
    go_wp2_with fail
    refine (specInYes _ _ _ _ (by omega) (by omega)).mono ?_
    rintro e w' ⟨rfl, rfl⟩
    go_wp2_with fail
    refine (specRev _ _).mono ?_
    rintro e w1 ⟨he, m1⟩
    rw [hr] at he
    subst he
    have M1 := M0.trans m1
    have k3 : (w.alloc (Obj.cells #[Value.int .i64 x0, Value.int .i64 x1, Value.int .i64 x2, Value.slice (some ⟨b, off, none⟩) n c] 121)).cell? ⟨w.heap.size, 3, none⟩ = some (.slice (some ⟨b, off, none⟩) n c) := by simp [go_sem]
    replace k3 := m1.cellAt k3
    replace d0 := M1.cellAt d0
    replace d1 := M1.cellAt d1
    replace d2 := M1.cellAt d2
    replace d3 := M1.cellAt d3
    replace d4 := M1.cellAt d4
    have hb1 := Nat.lt_of_lt_of_le hbw M1.size
    go_wp2_with fail
    go_ret
    exact ⟨retI HR.out.symm, M1⟩

set_option maxRecDepth 100000 in
set_option maxHeartbeats 4000000 in
theorem specPOut (x0 x1 x2 : Int) (a : Option Addr) (n c B : Nat) (zs : List THop) (i : Int) (w : World) (h : HasHop w B a n zs) (hB : B ≤ w.heap.size) (hn : n ≤ 1048576) :
    Calls Tryd.prog 70 #[.agg #[.int .i64 x0, .int .i64 x1, .int .i64 x2, .slice a n c], .int .i64 i] w fun e w' => e = .returned (.int .i64 (pOutV x0 zs n i)) ∧ Mk0 w w' := by
  have M0 := Mk.alloc w (Obj.cells #[Value.int .i64 x0, Value.int .i64 x1, Value.int .i64 x2, Value.slice a n c] 121)
  by_cases hi : i < 0 ∨ (n : Int) ≤ i
  · have HR := Lib.hid (pOut_out (k := x0) (zs := zs) hi)
    have HI := Lib.hid hi
    clear hi
    go_enter Tryd.func70, Tryd.ntmps70
    go_wp2_with fail
    refine (specInNo _ _ _ _ (by have := HI.out; omega)).mono ?_
    rintro e w' ⟨rfl, rfl⟩
    go_wp2_with fail
    go_ret
    exact ⟨retI HR.out.symm, M0⟩
  obtain ⟨q, rfl⟩ : ∃ q : Nat, i = (q : Int) := ⟨i.toNat, by omega⟩
  have hq : q < n := by omega
  clear hi
  obtain ⟨b, off, x, rfl, hb, hx, d0, d1, d2, d3, d4⟩ := HasHop.at _ _ _ _ _ _ h hq
  have hbw := Nat.lt_of_lt_of_le hb hB
  cases hr : revB x0
  · have HR := Lib.hid ((pOut_at (k := x0) hq hx.out).trans (if_neg (by simp [hr])))
    go_enter Tryd.func70, Tryd.ntmps70
    go_wp2_with fail
    refine (specInYes _ _ _ _ (by omega) (by omega)).mono ?_
    rintro e w' ⟨rfl, rfl⟩
    go_wp2_with fail
    refine (specRev _ _).mono ?_
    rintro e w1 ⟨he, m1⟩
    rw [hr] at he
    subst he
    have M1 := M0.trans m1
    have k3 : (w.alloc (Obj.cells #[Value.int .i64 x0, Value.int .i64 x1, Value.int .i64 x2, Value.slice (some ⟨b, off, none⟩) n c] 121)).cell? ⟨w.heap.size, 3, none⟩ = some (.slice (some ⟨b, off, none⟩) n c) := by simp [go_sem]
    replace k3 := m1.cellAt k3
    replace d0 := M1.cellAt d0
    replace d1 := M1.cellAt d1
    replace d2 := M1.cellAt d2
    replace d3 := M1.cellAt d3
    replace d4 := M1.cellAt d4
    have hb1 := Nat.lt_of_lt_of_le hbw M1.size
    go_wp2_with fail
    go_ret
    exact ⟨retI HR.out.symm, M1⟩
  · have HR := Lib.hid ((pOut_at (k := x0) hq hx.out).trans (if_pos hr))
    go_enter Tryd.func70, Tryd.ntmps70
    go_wp2_with fail
    refine (specInYes _ _ _ _ (by omega) (by omega)).mono ?_
    rintro e w' ⟨rfl, rfl⟩
    go_wp2_with fail
    refine (specRev _ _).mono ?_
    rintro e w1 ⟨he, m1⟩
    rw [hr] at he
    subst he
    have M1 := M0.trans m1
    have k3 : (w.alloc (Obj.cells #[Value.int .i64 x0, Value.int .i64 x1, Value.int .i64 x2, Value.slice (some ⟨b, off, none⟩) n c] 121)).cell? ⟨w.heap.size, 3, none⟩ = some (.slice (some ⟨b, off, none⟩) n c) := by simp [go_sem]
    replace k3 := m1.cellAt k3
    replace d0 := M1.cellAt d0
    replace d1 := M1.cellAt d1
    replace d2 := M1.cellAt d2
    replace d3 := M1.cellAt d3
    replace d4 := M1.cellAt d4
    have hb1 := Nat.lt_of_lt_of_le hbw M1.size
    go_wp2_with fail
    go_ret
    exact ⟨retI HR.out.symm, M1⟩

set_option maxRecDepth 100000 in
set_option maxHeartbeats 4000000 in
theorem implDoors (x0 x1 x2 : Int) (a : Option Addr) (n c B : Nat) (zs : List THop) (i : Int) (w : World) (h : HasHop w B a n zs) (hB : B ≤ w.heap.size) (hn : n ≤ 1048576) :
    Calls Tryd.prog 82 #[.agg #[.int .i64 x0, .int .i64 x1, .int .i64 x2, .slice a n c], .int .i64 i] w fun e w' => e = .returned (.tuple #[.int .i64 (pInV x0 zs n i), .int .i64 (pOutV x0 zs n i)]) ∧ Mk0 w w' := by
  have M0 := Mk.alloc w (Obj.cells #[Value.int .i64 x0, Value.int .i64 x1, Value.int .i64 x2, Value.slice a n c] 121)
  by_cases hi : i < 0 ∨ (n : Int) ≤ i
  · have HR := Lib.hid (pIn_out (k := x0) (zs := zs) hi)
    have HQ := Lib.hid (pOut_out (k := x0) (zs := zs) hi)
    have HI := Lib.hid hi
    clear hi
    go_enter Tryd.func82, Tryd.ntmps82
    go_wp2_with fail
    refine (implInNo _ _ _ _ (by have := HI.out; omega)).mono ?_
    rintro e w' ⟨rfl, rfl⟩
    go_wp2_with fail
    refine bodyPost_ret (v := .tuple #[.int .i64 0, .int .i64 0]) (by simp [results, Tryd.results82, go_sem]) rfl ⟨ret_p HR.out HQ.out, M0⟩
  obtain ⟨q, rfl⟩ : ∃ q : Nat, i = (q : Int) := ⟨i.toNat, by omega⟩
  have hq : q < n := by omega
  clear hi
  obtain ⟨b, off, x, rfl, hb, hx, d0, d1, d2, d3, d4⟩ := HasHop.at _ _ _ _ _ _ h hq
  have hbw := Nat.lt_of_lt_of_le hb hB
  cases hr : revB x0
  · have HR := Lib.hid ((pIn_at (k := x0) hq hx.out).trans (if_neg (by simp [hr])))
    have HQ := Lib.hid ((pOut_at (k := x0) hq hx.out).trans (if_neg (by simp [hr])))
    go_enter Tryd.func82, Tryd.ntmps82
    go_wp2_with fail
    refine (implInYes _ _ _ _ (by omega) (by omega)).mono ?_
    rintro e w' ⟨rfl, rfl⟩
    go_wp2_with fail
    refine (implRev _ _).mono ?_
    rintro e w1 ⟨he, m1⟩
    rw [hr] at he
    subst he
    have k1 : ((w.alloc (Obj.cells #[Value.int .i64 x0, Value.int .i64 x1, Value.int .i64 x2, Value.slice (some ⟨b, off, none⟩) n c] 121)).alloc (Obj.cells #[Value.int .i64 x.nd, Value.int .i64 x.ing, Value.int .i64 x.eg, Value.int .i64 x.exp, Value.int .i64 x.mac] 79)).cell? ⟨w.heap.size + 1, 1, none⟩ = some (.int .i64 x.ing) := by simp [go_sem]
    have k2 : ((w.alloc (Obj.cells #[Value.int .i64 x0, Value.int .i64 x1, Value.int .i64 x2, Value.slice (some ⟨b, off, none⟩) n c] 121)).alloc (Obj.cells #[Value.int .i64 x.nd, Value.int .i64 x.ing, Value.int .i64 x.eg, Value.int .i64 x.exp, Value.int .i64 x.mac] 79)).cell? ⟨w.heap.size + 1, 2, none⟩ = some (.int .i64 x.eg) := by simp [go_sem]
    replace k1 := m1.cellAt k1
    replace k2 := m1.cellAt k2
    go_wp2_with fail
    go_quiet (fail)
    go_wp2_with fail
    refine bodyPost_ret (v := .tuple #[.int .i64 x.ing, .int .i64 x.eg]) (by simp [results, Tryd.results82, go_sem]) rfl ⟨ret_p HR.out HQ.out, ((M0.new (Obj.cells #[Value.int .i64 x.nd, Value.int .i64 x.ing, Value.int .i64 x.eg, Value.int .i64 x.exp, Value.int .i64 x.mac] 79)).trans m1).trans (Mk.drewN _ _)⟩
  · have HR := Lib.hid ((pIn_at (k := x0) hq hx.out).trans (if_pos hr))
    have HQ := Lib.hid ((pOut_at (k := x0) hq hx.out).trans (if_pos hr))
    go_enter Tryd.func82, Tryd.ntmps82
    go_wp2_with fail
    refine (implInYes _ _ _ _ (by omega) (by omega)).mono ?_
    rintro e w' ⟨rfl, rfl⟩
    go_wp2_with fail
    refine (implRev _ _).mono ?_
    rintro e w1 ⟨he, m1⟩
    rw [hr] at he
    subst he
    have k1 : ((w.alloc (Obj.cells #[Value.int .i64 x0, Value.int .i64 x1, Value.int .i64 x2, Value.slice (some ⟨b, off, none⟩) n c] 121)).alloc (Obj.cells #[Value.int .i64 x.nd, Value.int .i64 x.ing, Value.int .i64 x.eg, Value.int .i64 x.exp, Value.int .i64 x.mac] 79)).cell? ⟨w.heap.size + 1, 1, none⟩ = some (.int .i64 x.ing) := by simp [go_sem]
    have k2 : ((w.alloc (Obj.cells #[Value.int .i64 x0, Value.int .i64 x1, Value.int .i64 x2, Value.slice (some ⟨b, off, none⟩) n c] 121)).alloc (Obj.cells #[Value.int .i64 x.nd, Value.int .i64 x.ing, Value.int .i64 x.eg, Value.int .i64 x.exp, Value.int .i64 x.mac] 79)).cell? ⟨w.heap.size + 1, 2, none⟩ = some (.int .i64 x.eg) := by simp [go_sem]
    replace k1 := m1.cellAt k1
    replace k2 := m1.cellAt k2
    go_wp2_with fail
    go_quiet (fail)
    go_wp2_with fail
    refine bodyPost_ret (v := .tuple #[.int .i64 x.eg, .int .i64 x.ing]) (by simp [results, Tryd.results82, go_sem]) rfl ⟨ret_p HR.out HQ.out, ((M0.new (Obj.cells #[Value.int .i64 x.nd, Value.int .i64 x.ing, Value.int .i64 x.eg, Value.int .i64 x.exp, Value.int .i64 x.mac] 79)).trans m1).trans (Mk.drewN _ _)⟩

end Go.Proofs.YthpejolljkbenaaDoor
