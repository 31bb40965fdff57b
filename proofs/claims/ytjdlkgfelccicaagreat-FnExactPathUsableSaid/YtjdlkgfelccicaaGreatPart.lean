
/- Parts of a path: reversed kinds, the interfaces at a hop, the value behind i hops, of both sides. -/
import Derived.Test.YtjdlkgfelccicaaGreatCPathPart
import Derived.Test.YtjdlkgfelccicaaGreatRet
import Derived.Test.YtjdlkgfelccicaaGreatInR
import Derived.Test.YtjdlkgfelccicaaGreatModOps
import Derived.Deep.QuietTactic
import Derived.BigQuiet
namespace Go.Proofs.YtjdlkgfelccicaaGreat
open Go.ChangeShapes Go.WideShapes Go.ChangeAt Go.RowKit
set_option linter.unusedVariables false
def revB (k : Int) : Bool := (k == 1) || (k == 3)
def pInV (k : Int) (zs : List THop) (n : Nat) (i : Int) : Int := if 0 ≤ i ∧ i < n then (if revB k = true then (zs.getD i.toNat default).eg else (zs.getD i.toNat default).ing) else 0
def pOutV (k : Int) (zs : List THop) (n : Nat) (i : Int) : Int := if 0 ≤ i ∧ i < n then (if revB k = true then (zs.getD i.toNat default).ing else (zs.getD i.toNat default).eg) else 0
theorem pIn_out {k : Int} {zs : List THop} {n : Nat} {i : Int} (h : i < 0 ∨ (n : Int) ≤ i) : pInV k zs n i = 0 := if_neg (by omega)
theorem pOut_out {k : Int} {zs : List THop} {n : Nat} {i : Int} (h : i < 0 ∨ (n : Int) ≤ i) : pOutV k zs n i = 0 := if_neg (by omega)
theorem pIn_at {k : Int} {zs : List THop} {n q : Nat} {x : THop} (h : q < n) (hx : x = zs.getD q default) : pInV k zs n (q : Int) = if revB k = true then x.eg else x.ing := by
  subst hx; unfold pInV; rw [if_pos ⟨by omega, by omega⟩, show ((q : Nat) : Int).toNat = q by omega]
theorem pOut_at {k : Int} {zs : List THop} {n q : Nat} {x : THop} (h : q < n) (hx : x = zs.getD q default) : pOutV k zs n (q : Int) = if revB k = true then x.ing else x.eg := by
  subst hx; unfold pOutV; rw [if_pos ⟨by omega, by omega⟩, show ((q : Nat) : Int).toNat = q by omega]
def pass (k b m : Int) : Int := if revB k = true then subM b m else addM b m
def passN (k b : Int) (zs : List THop) : Nat → Int
  | 0 => b
  | j + 1 => pass k (passN k b zs j) (zs.getD j default).mac
def afterV (k b : Int) (zs : List THop) (n : Nat) (i : Int) : Int := if 0 ≤ i ∧ i ≤ n then passN k b zs i.toNat else 0
theorem after_in {k b : Int} {zs : List THop} {n q : Nat} (h : q ≤ n) : afterV k b zs n (q : Int) = passN k b zs q := by
  unfold afterV; rw [if_pos ⟨by omega, by omega⟩, show ((q : Nat) : Int).toNat = q by omega]
theorem after_out {k b : Int} {zs : List THop} {n : Nat} {i : Int} (h : i < 0 ∨ (n : Int) < i) : afterV k b zs n i = 0 := if_neg (by omega)
theorem pass_t {k b m : Int} (h : revB k = true) : pass k b m = subM b m := if_pos h
theorem pass_f {k b m : Int} (h : revB k = false) : pass k b m = addM b m := if_neg (by simp [h])

set_option maxRecDepth 100000 in
set_option maxHeartbeats 4000000 in
theorem specRev (k : Int) (w : World) : Calls Tryz.prog 83 #[.int .i64 k] w fun e w' => e = .returned (.bool (revB k)) ∧ Mk0 w w' := by
  by_cases h1 : k = 1
  · subst h1
    go_enter Tryz.func83, Tryz.ntmps83
    go_wp2
    go_ret
    exact ⟨rfl, Mk.refl _ _ _⟩
  · have n1 : (k == 1) = false := by simpa using h1
    clear h1
    cases h3 : (k == 3)
    all_goals (
      have HR := Lib.hid (show revB k = (false || _) by unfold revB; rw [n1, h3])
      go_enter Tryz.func83, Tryz.ntmps83
      go_wp2
      go_ret
      exact ⟨retB HR.out.symm, Mk.refl _ _ _⟩)

set_option maxRecDepth 100000 in
set_option maxHeartbeats 4000000 in
theorem kindIs1 (w : World) : Calls Tryz.prog 72 #[.int .i64 1] w fun e w' => e = .returned (.iface 125 (.agg #[])) ∧ Mk0 w w' := by
  go_enter Tryz.func72, Tryz.ntmps72
  go_wp2
  go_ret
  exact ⟨rfl, Mk.of_below (by go_grown)⟩

set_option maxRecDepth 100000 in
set_option maxHeartbeats 4000000 in
theorem kindIs2 (w : World) : Calls Tryz.prog 72 #[.int .i64 2] w fun e w' => e = .returned (.iface 126 (.agg #[])) ∧ Mk0 w w' := by
  go_enter Tryz.func72, Tryz.ntmps72
  go_wp2
  go_ret
  exact ⟨rfl, Mk.of_below (by go_grown)⟩

set_option maxRecDepth 100000 in
set_option maxHeartbeats 4000000 in
theorem kindIs3 (w : World) : Calls Tryz.prog 72 #[.int .i64 3] w fun e w' => e = .returned (.iface 127 (.agg #[])) ∧ Mk0 w w' := by
  go_enter Tryz.func72, Tryz.ntmps72
  go_wp2
  go_ret
  exact ⟨rfl, Mk.of_below (by go_grown)⟩

set_option maxRecDepth 100000 in
set_option maxHeartbeats 4000000 in
theorem kindIs4 (w : World) : Calls Tryz.prog 72 #[.int .i64 4] w fun e w' => e = .returned (.iface 128 (.agg #[])) ∧ Mk0 w w' := by
  go_enter Tryz.func72, Tryz.ntmps72
  go_wp2
  go_ret
  exact ⟨rfl, Mk.of_below (by go_grown)⟩

set_option maxRecDepth 100000 in
set_option maxHeartbeats 4000000 in
theorem kindIs0 (k : Int) (w : World) (n1 : (k == 1) = false) (n2 : (k == 2) = false) (n3 : (k == 3) = false) (n4 : (k == 4) = false) : Calls Tryz.prog 72 #[.int .i64 k] w fun e w' => e = .returned .nilIface ∧ Mk0 w w' := by
  go_enter Tryz.func72, Tryz.ntmps72
  go_wp2
  go_ret
  exact ⟨rfl, Mk.of_below (by go_grown)⟩

set_option maxRecDepth 100000 in
set_option maxHeartbeats 4000000 in
theorem implRev (k : Int) (w : World) : Calls Tryz.prog 107 #[.int .i64 k] w fun e w' => e = .returned (.bool (revB k)) ∧ Mk0 w w' := by
  by_cases h1 : k = 1
  · subst h1
    have q_upPart : ∀ w', (Instr.typeAssert (Value.iface 125 (.agg #[])) 109 125 true).run Tryz.prog w' = .ok (.tuple #[.agg #[], .bool true]) w' := fun _ => by kernel_rfl
    have q_reversedCorePart : ∀ w', (Instr.typeAssert (Value.iface 125 (.agg #[])) 109 127 true).run Tryz.prog w' = .ok (.tuple #[.agg #[], .bool false]) w' := fun _ => by kernel_rfl
    go_enter Tryz.func107, Tryz.ntmps107
    go_wp2_with fail
    refine (kindIs1 _).mono ?_
    rintro e w1 ⟨rfl, m1⟩
    go_wp2_with fail
    go_ret
    exact ⟨rfl, m1⟩
  by_cases h2 : k = 2
  · subst h2
    have q_upPart : ∀ w', (Instr.typeAssert (Value.iface 126 (.agg #[])) 109 125 true).run Tryz.prog w' = .ok (.tuple #[.agg #[], .bool false]) w' := fun _ => by kernel_rfl
    have q_reversedCorePart : ∀ w', (Instr.typeAssert (Value.iface 126 (.agg #[])) 109 127 true).run Tryz.prog w' = .ok (.tuple #[.agg #[], .bool false]) w' := fun _ => by kernel_rfl
    go_enter Tryz.func107, Tryz.ntmps107
    go_wp2_with fail
    refine (kindIs2 _).mono ?_
    rintro e w1 ⟨rfl, m1⟩
    go_wp2_with fail
    go_ret
    exact ⟨rfl, m1⟩
  by_cases h3 : k = 3
  · subst h3
    have q_upPart : ∀ w', (Instr.typeAssert (Value.iface 127 (.agg #[])) 109 125 true).run Tryz.prog w' = .ok (.tuple #[.agg #[], .bool false]) w' := fun _ => by kernel_rfl
    have q_reversedCorePart : ∀ w', (Instr.typeAssert (Value.iface 127 (.agg #[])) 109 127 true).run Tryz.prog w' = .ok (.tuple #[.agg #[], .bool true]) w' := fun _ => by kernel_rfl
    go_enter Tryz.func107, Tryz.ntmps107
    go_wp2_with fail
    refine (kindIs3 _).mono ?_
    rintro e w1 ⟨rfl, m1⟩
    go_wp2_with fail
    go_ret
    exact ⟨rfl, m1⟩
  by_cases h4 : k = 4
  · subst h4
    have q_upPart : ∀ w', (Instr.typeAssert (Value.iface 128 (.agg #[])) 109 125 true).run Tryz.prog w' = .ok (.tuple #[.agg #[], .bool false]) w' := fun _ => by kernel_rfl
    have q_reversedCorePart : ∀ w', (Instr.typeAssert (Value.iface 128 (.agg #[])) 109 127 true).run Tryz.prog w' = .ok (.tuple #[.agg #[], .bool false]) w' := fun _ => by kernel_rfl
    go_enter Tryz.func107, Tryz.ntmps107
    go_wp2_with fail
    refine (kindIs4 _).mono ?_
    rintro e w1 ⟨rfl, m1⟩
    go_wp2_with fail
    go_ret
    exact ⟨rfl, m1⟩
  have n1 : (k == 1) = false := by simpa using h1
  have n2 : (k == 2) = false := by simpa using h2
  have n3 : (k == 3) = false := by simpa using h3
  have n4 : (k == 4) = false := by simpa using h4
  have HR := Lib.hid (show revB k = false by unfold revB; rw [n1, n3]; rfl)
  clear h1 h2 h3 h4
  have q_upPart : ∀ w', (Instr.typeAssert Value.nilIface 109 125 true).run Tryz.prog w' = .ok (.tuple #[.agg #[], .bool false]) w' := fun _ => by kernel_rfl
  have q_reversedCorePart : ∀ w', (Instr.typeAssert Value.nilIface 109 127 true).run Tryz.prog w' = .ok (.tuple #[.agg #[], .bool false]) w' := fun _ => by kernel_rfl
  go_enter Tryz.func107, Tryz.ntmps107
  go_wp2_with fail
  refine (kindIs0 k _ n1 n2 n3 n4).mono ?_
  rintro e w1 ⟨rfl, m1⟩
  go_wp2_with fail
  go_ret
  exact ⟨retB HR.out.symm, m1⟩

theorem ret_p {a b c d : Int} (h : a = b) (k : c = d) : Ending.returned (.tuple #[.int .i64 b, .int .i64 d]) = .returned (.tuple #[.int .i64 a, .int .i64 c]) := by rw [h, k]

set_option maxRecDepth 100000 in
set_option maxHeartbeats 4000000 in
theorem specPIn (x0 x1 x2 : Int) (a : Option Addr) (n c B : Nat) (zs : List THop) (i : Int) (w : World) (h : HasHop w B a n zs) (hB : B ≤ w.heap.size) (hn : n ≤ 1048576) :
    Calls Tryz.prog 62 #[.agg #[.int .i64 x0, .int .i64 x1, .int .i64 x2, .slice a n c], .int .i64 i] w fun e w' => e = .returned (.int .i64 (pInV x0 zs n i)) ∧ Mk0 w w' := by
  have M0 := Mk.alloc w (Obj.cells #[Value.int .i64 x0, Value.int .i64 x1, Value.int .i64 x2, Value.slice a n c] 61)
  by_cases hi : i < 0 ∨ (n : Int) ≤ i
  · have HR := Lib.hid (pIn_out (k := x0) (zs := zs) hi)
    have HI := Lib.hid hi
    clear hi
    go_enter Tryz.func62, Tryz.ntmps62
    go_wp2_with fail
    refine (specInNo _ _ _ _ (by have := HI.out; omega)).mono ?_
    rintro e w' ⟨rfl, rfl⟩
    go_wp2_with fail
    go_ret
    exact ⟨retI HR.out.symm, M0⟩
  obtain ⟨q, rfl⟩ : ∃ q : Nat, i = (q : Int) := ⟨i.toNat, by omega⟩
  have hq : q < n := by omega
  clear hi
  obtain ⟨b, off, x, rfl, hb, hx, d0, d1, d2, d3, d4⟩ := HasHop.at _ _ _ _ _ _ h hq
  have hbw := Nat.lt_of_lt_of_le hb hB
  cases hr : revB x0
  · have HR := Lib.hid ((pIn_at (k := x0) hq hx.out).trans (if_neg (by simp [hr])))
    go_enter Tryz.func62, Tryz.ntmps62
    go_wp2_with fail
    refine (specInYes _ _ _ _ (by omega) (by omega)).mono ?_
    rintro e w' ⟨rfl, rfl⟩
    go_wp2_with fail
    refine (specRev _ _).mono ?_
    rintro e w1 ⟨he, m1⟩
    rw [hr] at he
    subst he
    have M1 := M0.trans m1
    have k3 : (w.alloc (Obj.cells #[Value.int .i64 x0, Value.int .i64 x1, Value.int .i64 x2, Value.slice (some ⟨b, off, none⟩) n c] 61)).cell? ⟨w.heap.size, 3, none⟩ = some (.slice (some ⟨b, off, none⟩) n c) := by simp [go_sem]
    replace k3 := m1.cellAt k3
    replace d0 := M1.cellAt d0
    replace d1 := M1.cellAt d1
    replace d2 := M1.cellAt d2
    replace d3 := M1.cellAt d3
    replace d4 := M1.cellAt d4
    have hb1 := Nat.lt_of_lt_of_le hbw M1.size
    go_wp2_with fail
    go_ret
    exact ⟨retI HR.out.symm, M1⟩
  · have HR := Lib.hid ((pIn_at (k := x0) hq hx.out).trans (if_pos hr))
    go_enter Tryz.func62, Tryz.ntmps62
    go_wp2_with fail
    refine (specInYes _ _ _ _ (by omega) (by omega)).mono ?_
    rintro e w' ⟨rfl, rfl⟩
    go_wp2_with fail
    refine (specRev _ _).mono ?_
    rintro e w1 ⟨he, m1⟩
    rw [hr] at he
    subst he
    have M1 := M0.trans m1
    have k3 : (w.alloc (Obj.cells #[Value.int .i64 x0, Value.int .i64 x1, Value.int .i64 x2, Value.slice (some ⟨b, off, none⟩) n c] 61)).cell? ⟨w.heap.size, 3, none⟩ = some (.slice (some ⟨b, off, none⟩) n c) := by simp [go_sem]
    replace k3 := m1.cellAt k3
    replace d0 := M1.cellAt d0
    replace d1 := M1.cellAt d1
    replace d2 := M1.cellAt d2
    replace d3 := M1.cellAt d3
    replace d4 := M1.cellAt d4
    have hb1 := Nat.lt_of_lt_of_le hbw M1.size
    go_wp2_with fail
    go_ret
    exact ⟨retI HR.out.symm, M1⟩

set_option maxRecDepth 100000 in
set_option maxHeartbeats 4000000 in
theorem specPOut (x0 x1 x2 : Int) (a : Option Addr) (n c B : Nat) (zs : List THop) (i : Int) (w : World) (h : HasHop w B a n zs) (hB : B ≤ w.heap.size) (hn : n ≤ 1048576) :
    Calls Tryz.prog 61 #[.agg #[.int .i64 x0, .int .i64 x1, .int .i64 x2, .slice a n c], .int .i64 i] w fun e w' => e = .returned (.int .i64 (pOutV x0 zs n i)) ∧ Mk0 w w' := by
  have M0 := Mk.alloc w (Obj.cells #[Value.int .i64 x0, Value.int .i64 x1, Value.int .i64 x2, Value.slice a n c] 61)
  by_cases hi : i < 0 ∨ (n : Int) ≤ i
  · have HR := Lib.hid (pOut_out (k := x0) (zs := zs) hi)
    have HI := Lib.hid hi
    clear hi
    go_enter Tryz.func61, Tryz.ntmps61
    go_wp2_with fail
    refine (specInNo _ _ _ _ (by have := HI.out; omega)).mono ?_
    rintro e w' ⟨rfl, rfl⟩
    go_wp2_with fail
    go_ret
    exact ⟨retI HR.out.symm, M0⟩
  obtain ⟨q, rfl⟩ : ∃ q : Nat, i = (q : Int) := ⟨i.toNat, by omega⟩
  have hq : q < n := by omega
  clear hi
  obtain ⟨b, off, x, rfl, hb, hx, d0, d1, d2, d3, d4⟩ := HasHop.at _ _ _ _ _ _ h hq
  have hbw := Nat.lt_of_lt_of_le hb hB
  cases hr : revB x0
  · have HR := Lib.hid ((pOut_at (k := x0) hq hx.out).trans (if_neg (by simp [hr])))
    go_enter Tryz.func61, Tryz.ntmps61
    go_wp2_with fail
    refine (specInYes _ _ _ _ (by omega) (by omega)).mono ?_
    rintro e w' ⟨rfl, rfl⟩
    go_wp2_with fail
    refine (specRev _ _).mono ?_
    rintro e w1 ⟨he, m1⟩
    rw [hr] at he
    subst he
    have M1 := M0.trans m1
    have k3 : (w.alloc (Obj.cells #[Value.int .i64 x0, Value.int .i64 x1, Value.int .i64 x2, Value.slice (some ⟨b, off, none⟩) n c] 61)).cell? ⟨w.heap.size, 3, none⟩ = some (.slice (some ⟨b, off, none⟩) n c) := by simp [go_sem]
    replace k3 := m1.cellAt k3
    replace d0 := M1.cellAt d0
    replace d1 := M1.cellAt d1
    replace d2 := M1.cellAt d2
    replace d3 := M1.cellAt d3
    replace d4 := M1.cellAt d4
    have hb1 := Nat.lt_of_lt_of_le hbw M1.size
    go_wp2_with fail
    go_ret
    exact ⟨retI HR.out.symm, M1⟩
  · have HR := Lib.hid ((pOut_at (k := x0) hq hx.out).trans (if_pos hr))
    go_enter Tryz.func61, Tryz.ntmps61
    go_wp2_with fail
    refine (specInYes _ _ _ _ (by omega) (by omega)).mono ?_
    rintro e w' ⟨rfl, rfl⟩
    go_wp2_with fail
    refine (specRev _ _).mono ?_
    rintro e w1 ⟨he, m1⟩
    rw [hr] at he
    subst he
    have M1 := M0.trans m1
    have k3 : (w.alloc (Obj.cells #[Value.int .i64 x0, Value.int .i64 x1, Value.int .i64 x2, Value.slice (some ⟨b, off, none⟩) n c] 61)).cell? ⟨w.heap.size, 3, none⟩ = some (.slice (some ⟨b, off, none⟩) n c) := by simp [go_sem]
    replace k3 := m1.cellAt k3
    replace d0 := M1.cellAt d0
    replace d1 := M1.cellAt d1
    replace d2 := M1.cellAt d2
    replace d3 := M1.cellAt d3
    replace d4 := M1.cellAt d4
    have hb1 := Nat.lt_of_lt_of_le hbw M1.size
    go_wp2_with fail
    go_ret
    exact ⟨retI HR.out.symm, M1⟩

set_option maxRecDepth 100000 in
set_option maxHeartbeats 4000000 in
theorem implDoors (x0 x1 x2 : Int) (a : Option Addr) (n c B : Nat) (zs : List THop) (i : Int) (w : World) (h : HasHop w B a n zs) (hB : B ≤ w.heap.size) (hn : n ≤ 1048576) :
    Calls Tryz.prog 91 #[.agg #[.int .i64 x0, .int .i64 x1, .int .i64 x2, .slice a n c], .int .i64 i] w fun e w' => e = .returned (.tuple #[.int .i64 (pInV x0 zs n i), .int .i64 (pOutV x0 zs n i)]) ∧ Mk0 w w' := by
  have M0 := Mk.alloc w (Obj.cells #[Value.int .i64 x0, Value.int .i64 x1, Value.int .i64 x2, Value.slice a n c] 61)
  by_cases hi : i < 0 ∨ (n : Int) ≤ i
  · have HR := Lib.hid (pIn_out (k := x0) (zs := zs) hi)
    have HQ := Lib.hid (pOut_out (k := x0) (zs := zs) hi)
    have HI := Lib.hid hi
    clear hi
    go_enter Tryz.func91, Tryz.ntmps91
    go_wp2_with fail
    refine (implInNo _ _ _ _ (by have := HI.out; omega)).mono ?_
    rintro e w' ⟨rfl, rfl⟩
    go_wp2_with fail
    refine bodyPost_ret (v := .tuple #[.int .i64 0, .int .i64 0]) (by simp [results, Tryz.results91, go_sem]) rfl ⟨ret_p HR.out HQ.out, M0⟩
  obtain ⟨q, rfl⟩ : ∃ q : Nat, i = (q : Int) := ⟨i.toNat, by omega⟩
  have hq : q < n := by omega
  clear hi
  obtain ⟨b, off, x, rfl, hb, hx, d0, d1, d2, d3, d4⟩ := HasHop.at _ _ _ _ _ _ h hq
  have hbw := Nat.lt_of_lt_of_le hb hB
  cases hr : revB x0
  · have HR := Lib.hid ((pIn_at (k := x0) hq hx.out).trans (if_neg (by simp [hr])))
    have HQ := Lib.hid ((pOut_at (k := x0) hq hx.out).trans (if_neg (by simp [hr])))
    go_enter Tryz.func91, Tryz.ntmps91
    go_wp2_with fail
    refine (implInYes _ _ _ _ (by omega) (by omega)).mono ?_
    rintro e w' ⟨rfl, rfl⟩
    go_wp2_with fail
    refine (implRev _ _).mono ?_
    rintro e w1 ⟨he, m1⟩
    rw [hr] at he
    subst he
    have k1 : ((w.alloc (Obj.cells #[Value.int .i64 x0, Value.int .i64 x1, Value.int .i64 x2, Value.slice (some ⟨b, off, none⟩) n c] 61)).alloc (Obj.cells #[Value.int .i64 x.nd, Value.int .i64 x.ing, Value.int .i64 x.eg, Value.int .i64 x.exp, Value.int .i64 x.mac] 64)).cell? ⟨w.heap.size + 1, 1, none⟩ = some (.int .i64 x.ing) := by simp [go_sem]
    have k2 : ((w.alloc (Obj.cells #[Value.int .i64 x0, Value.int .i64 x1, Value.int .i64 x2, Value.slice (some ⟨b, off, none⟩) n c] 61)).alloc (Obj.cells #[Value.int .i64 x.nd, Value.int .i64 x.ing, Value.int .i64 x.eg, Value.int .i64 x.exp, Value.int .i64 x.mac] 64)).cell? ⟨w.heap.size + 1, 2, none⟩ = some (.int .i64 x.eg) := by simp [go_sem]
    replace k1 := m1.cellAt k1
    replace k2 := m1.cellAt k2
    go_wp2_with fail
    go_quiet (fail)
    go_wp2_with fail
    refine bodyPost_ret (v := .tuple #[.int .i64 x.ing, .int .i64 x.eg]) (by simp [results, Tryz.results91, go_sem]) rfl ⟨ret_p HR.out HQ.out, ((M0.new (Obj.cells #[Value.int .i64 x.nd, Value.int .i64 x.ing, Value.int .i64 x.eg, Value.int .i64 x.exp, Value.int .i64 x.mac] 64)).trans m1).trans (Mk.drewN _ _)⟩
  · have HR := Lib.hid ((pIn_at (k := x0) hq hx.out).trans (if_pos hr))
    have HQ := Lib.hid ((pOut_at (k := x0) hq hx.out).trans (if_pos hr))
    go_enter Tryz.func91, Tryz.ntmps91
    go_wp2_with fail
    refine (implInYes _ _ _ _ (by omega) (by omega)).mono ?_
    rintro e w' ⟨rfl, rfl⟩
    go_wp2_with fail
    refine (implRev _ _).mono ?_
    rintro e w1 ⟨he, m1⟩
    rw [hr] at he
    subst he
    have k1 : ((w.alloc (Obj.cells #[Value.int .i64 x0, Value.int .i64 x1, Value.int .i64 x2, Value.slice (some ⟨b, off, none⟩) n c] 61)).alloc (Obj.cells #[Value.int .i64 x.nd, Value.int .i64 x.ing, Value.int .i64 x.eg, Value.int .i64 x.exp, Value.int .i64 x.mac] 64)).cell? ⟨w.heap.size + 1, 1, none⟩ = some (.int .i64 x.ing) := by simp [go_sem]
    have k2 : ((w.alloc (Obj.cells #[Value.int .i64 x0, Value.int .i64 x1, Value.int .i64 x2, Value.slice (some ⟨b, off, none⟩) n c] 61)).alloc (Obj.cells #[Value.int .i64 x.nd, Value.int .i64 x.ing, Value.int .i64 x.eg, Value.int .i64 x.exp, Value.int .i64 x.mac] 64)).cell? ⟨w.heap.size + 1, 2, none⟩ = some (.int .i64 x.eg) := by simp [go_sem]
    replace k1 := m1.cellAt k1
    replace k2 := m1.cellAt k2
    go_wp2_with fail
    go_quiet (fail)
    go_wp2_with fail
    refine bodyPost_ret (v := .tuple #[.int .i64 x.eg, .int .i64 x.ing]) (by simp [results, Tryz.results91, go_sem]) rfl ⟨ret_p HR.out HQ.out, ((M0.new (Obj.cells #[Value.int .i64 x.nd, Value.int .i64 x.ing, Value.int .i64 x.eg, Value.int .i64 x.exp, Value.int .i64 x.mac] 64)).trans m1).trans (Mk.drewN _ _)⟩

set_option maxRecDepth 100000 in
set_option maxHeartbeats 4000000 in
theorem implPIn (x0 x1 x2 : Int) (a : Option Addr) (n c B : Nat) (zs : List THop) (i : Int) (w : World) (h : HasHop w B a n zs) (hB : B ≤ w.heap.size) (hn : n ≤ 1048576) :
    Calls Tryz.prog 89 #[.agg #[.int .i64 x0, .int .i64 x1, .int .i64 x2, .slice a n c], .int .i64 i] w fun e w' => e = .returned (.int .i64 (pInV x0 zs n i)) ∧ Mk0 w w' := by
  have M0 := Mk.alloc w (Obj.cells #[Value.int .i64 x0, Value.int .i64 x1, Value.int .i64 x2, Value.slice a n c] 61)
  go_enter Tryz.func89, Tryz.ntmps89
  go_wp2_with fail
  refine (implDoors x0 x1 x2 a n c B zs i _ (h.mk M0 hB (.inr (Nat.le_refl _))) (Nat.le_trans hB M0.size) hn).mono ?_
  rintro e w1 ⟨rfl, m1⟩
  go_wp2_with fail
  go_ret
  exact ⟨rfl, M0.trans m1⟩

set_option maxRecDepth 100000 in
set_option maxHeartbeats 4000000 in
theorem implPOut (x0 x1 x2 : Int) (a : Option Addr) (n c B : Nat) (zs : List THop) (i : Int) (w : World) (h : HasHop w B a n zs) (hB : B ≤ w.heap.size) (hn : n ≤ 1048576) :
    Calls Tryz.prog 87 #[.agg #[.int .i64 x0, .int .i64 x1, .int .i64 x2, .slice a n c], .int .i64 i] w fun e w' => e = .returned (.int .i64 (pOutV x0 zs n i)) ∧ Mk0 w w' := by
  have M0 := Mk.alloc w (Obj.cells #[Value.int .i64 x0, Value.int .i64 x1, Value.int .i64 x2, Value.slice a n c] 61)
  go_enter Tryz.func87, Tryz.ntmps87
  go_wp2_with fail
  refine (implDoors x0 x1 x2 a n c B zs i _ (h.mk M0 hB (.inr (Nat.le_refl _))) (Nat.le_trans hB M0.size) hn).mono ?_
  rintro e w1 ⟨rfl, m1⟩
  go_wp2_with fail
  go_ret
  exact ⟨rfl, M0.trans m1⟩

set_option maxRecDepth 100000 in
set_option maxHeartbeats 4000000 in
theorem implPass (k b : Int) (x : THop) (w : World) : Calls Tryz.prog 106 #[.int .i64 k, .int .i64 b, .agg #[.int .i64 x.nd, .int .i64 x.ing, .int .i64 x.eg, .int .i64 x.exp, .int .i64 x.mac]] w fun e w' => e = .returned (.int .i64 (pass k b x.mac)) ∧ Mk0 w w' := by
  have M0 := Mk.alloc w (Obj.cells #[Value.int .i64 x.nd, Value.int .i64 x.ing, Value.int .i64 x.eg, Value.int .i64 x.exp, Value.int .i64 x.mac] 64)
  have k4 : (w.alloc (Obj.cells #[Value.int .i64 x.nd, Value.int .i64 x.ing, Value.int .i64 x.eg, Value.int .i64 x.exp, Value.int .i64 x.mac] 64)).cell? ⟨w.heap.size, 4, none⟩ = some (.int .i64 x.mac) := by simp [go_sem]
  cases hr : revB k
  · have HR := Lib.hid (pass_f (b := b) (m := x.mac) hr)
    go_enter Tryz.func106, Tryz.ntmps106
    go_wp2_with fail
    refine (implRev _ _).mono ?_
    rintro e w1 ⟨he, m1⟩
    rw [hr] at he
    subst he
    replace k4 := m1.cellAt k4
    go_wp2_with fail
    refine (implAddMod _ _ _).mono ?_
    rintro e w' ⟨rfl, rfl⟩
    go_wp2_with fail
    go_ret
    exact ⟨retI HR.out.symm, M0.trans m1⟩
  · have HR := Lib.hid (pass_t (b := b) (m := x.mac) hr)
    go_enter Tryz.func106, Tryz.ntmps106
    go_wp2_with fail
    refine (implRev _ _).mono ?_
    rintro e w1 ⟨he, m1⟩
    rw [hr] at he
    subst he
    replace k4 := m1.cellAt k4
    go_wp2_with fail
    refine (implSubMod _ _ _).mono ?_
    rintro e w' ⟨rfl, rfl⟩
    go_wp2_with fail
    go_ret
    exact ⟨retI HR.out.symm, M0.trans m1⟩

set_option maxRecDepth 100000 in
set_option maxHeartbeats 4000000 in
theorem specAfter (x0 x1 x2 : Int) (a : Option Addr) (n c B : Nat) (zs : List THop) (i : Int) (w : World) (h : HasHop w B a n zs) (hB : B ≤ w.heap.size) (hn : n ≤ 1048576) :
    Calls Tryz.prog 105 #[.agg #[.int .i64 x0, .int .i64 x1, .int .i64 x2, .slice a n c], .int .i64 i] w fun e w' => e = .returned (.int .i64 (afterV x0 x2 zs n i)) ∧ Mk0 w w' := by
  have M0 := Mk.alloc w (Obj.cells #[Value.int .i64 x0, Value.int .i64 x1, Value.int .i64 x2, Value.slice a n c] 61)
  by_cases hi : i < 0 ∨ (n : Int) < i
  · have HR := Lib.hid (after_out (k := x0) (b := x2) (zs := zs) hi)
    have HI := Lib.hid hi
    clear hi
    go_enter Tryz.func105, Tryz.ntmps105
    go_wp2_with fail
    refine (specInNo _ _ _ _ (by have := HI.out; omega)).mono ?_
    rintro e w' ⟨rfl, rfl⟩
    go_wp2_with fail
    go_ret
    exact ⟨retI HR.out.symm, M0⟩
  · obtain ⟨q, rfl⟩ : ∃ q : Nat, i = (q : Int) := ⟨i.toNat, by omega⟩
    have hq : q ≤ n := by omega
    clear hi
    have HR := Lib.hid (after_in (k := x0) (b := x2) (zs := zs) hq)
    go_enter Tryz.func105, Tryz.ntmps105
    go_wp2_with fail
    refine (specInYes _ _ _ _ (by omega) (by omega)).mono ?_
    rintro e w' ⟨rfl, rfl⟩
    go_wp2_with fail
    go_loopw [5, 6] (fun v j wr => ∃ k : Nat, k ≤ q ∧ j = .int .i64 k ∧ v = .int .i64 (passN x0 x2 zs k) ∧ Mk0 (w.alloc (Obj.cells #[Value.int .i64 x0, Value.int .i64 x1, Value.int .i64 x2, Value.slice a n c] 61)) wr) (fun _ j _ => q - (intOf j).toNat)
    case atStart => exact ⟨0, Nat.zero_le _, rfl, rfl, Mk.refl _ _ _⟩
    case round =>
      obtain ⟨k, hk, rfl, rfl, hM⟩ := hrel
      have hM' := M0.trans hM
      have k0 : (w.alloc (Obj.cells #[Value.int .i64 x0, Value.int .i64 x1, Value.int .i64 x2, Value.slice a n c] 61)).cell? ⟨w.heap.size, 0, none⟩ = some (.int .i64 x0) := by simp [go_sem]
      have k3 : (w.alloc (Obj.cells #[Value.int .i64 x0, Value.int .i64 x1, Value.int .i64 x2, Value.slice a n c] 61)).cell? ⟨w.heap.size, 3, none⟩ = some (.slice a n c) := by simp [go_sem]
      replace k0 := hM.cellAt k0
      replace k3 := hM.cellAt k3
      by_cases hlt : k < q
      · obtain ⟨b, off, x, rfl, hb, hx, d0, d1, d2, d3, d4⟩ := HasHop.at _ _ _ _ _ _ (h.mk hM' hB (.inr (Nat.le_refl _))) (Nat.lt_of_lt_of_le hlt hq)
        have hbr := World.block_lt_of_cell? _ _ d0
        simp only at hbr
        cases hr : revB x0
        · have E := Lib.hid (show passN x0 x2 zs (k + 1) = _ by rw [passN, ← hx.out, pass_f hr])
          go_wp2_with fail
          refine (specRev _ _).mono ?_
          rintro e w1 ⟨he, m1⟩
          rw [hr] at he
          subst he
          replace k0 := m1.cellAt k0
          replace k3 := m1.cellAt k3
          replace d0 := m1.cellAt d0
          replace d1 := m1.cellAt d1
          replace d2 := m1.cellAt d2
          replace d3 := m1.cellAt d3
          replace d4 := m1.cellAt d4
          have hb1 := Nat.lt_of_lt_of_le hbr m1.size
          go_wp2_with fail
          refine (specAddMod _ _ _).mono ?_
          rintro e w2 ⟨rfl, rfl⟩
          go_wp2_with fail
          go_roundw
          case rel => exact ⟨k + 1, by omega, by go_num, congrArg (Value.int .i64) E.out.symm, hM.trans m1⟩
          case measure => simp [intOf]; omega
        · have E := Lib.hid (show passN x0 x2 zs (k + 1) = _ by rw [passN, ← hx.out, pass_t hr])
          go_wp2_with fail
          refine (specRev _ _).mono ?_
          rintro e w1 ⟨he, m1⟩
          rw [hr] at he
          subst he
          replace k0 := m1.cellAt k0
          replace k3 := m1.cellAt k3
          replace d0 := m1.cellAt d0
          replace d1 := m1.cellAt d1
          replace d2 := m1.cellAt d2
          replace d3 := m1.cellAt d3
          replace d4 := m1.cellAt d4
          have hb1 := Nat.lt_of_lt_of_le hbr m1.size
          go_wp2_with fail
          refine (specSubMod _ _ _).mono ?_
          rintro e w2 ⟨rfl, rfl⟩
          go_wp2_with fail
          go_roundw
          case rel => exact ⟨k + 1, by omega, by go_num, congrArg (Value.int .i64) E.out.symm, hM.trans m1⟩
          case measure => simp [intOf]; omega
      · obtain rfl : k = q := by omega
        go_wp2_with fail
        go_ret
        exact ⟨retI HR.out.symm, hM'⟩

end Go.Proofs.YtjdlkgfelccicaaGreat
