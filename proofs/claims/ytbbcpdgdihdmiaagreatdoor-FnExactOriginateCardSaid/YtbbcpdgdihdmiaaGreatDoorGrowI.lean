
/- grow of the program. -/
import Derived.Test.YtbbcpdgdihdmiaaGreatDoorGrow
import Derived.Test.YtbbcpdgdihdmiaaGreatDoorWs
namespace Go.Proofs.YtbbcpdgdihdmiaaGreatDoor
open Go.ChangeShapes Go.WideShapes Go.ChangeAt Go.RowKit
set_option linter.unusedVariables false
theorem asFitsG {zs : List TAS} {n q : Nat} (hl : zs.length = n) (hq : q < n) (hz : ∀ y ∈ zs, TAS.fits y) {y : TAS} (hy : y = zs.getD q default) : (Lit.int .i64 y.key).wf = true := by
  subst hy
  have : zs.getD q default ∈ zs := by
    rw [List.getD_eq_getElem?_getD, List.getElem?_eq_getElem (by omega)]
    exact List.getElem_mem _
  exact (hz _ this).2
theorem isAsNG {n : Nat} {r : Int} (h : isAsB n r = true) : ∃ q : Nat, r = (q : Int) ∧ q < n := by
  have := of_decide_eq_true (show decide (0 ≤ r ∧ r < (n : Int)) = true from h)
  exact ⟨r.toNat, by omega, by omega⟩
set_option maxRecDepth 100000 in
set_option maxHeartbeats 40000000 in
theorem implGrow (a0 a1 : Option Addr) (n0 c0 n1 c1 B : Nat) (zA : List TAS) (p : TPolicy) (x0 x1 : Int) (a : Option Addr) (n c B' : Nat) (hs : List THop) (r i o y z kd : Int) (bb : Bool) (w : World) (hA : HasAS w B a0 n0 zA) (hB : B ≤ w.heap.size) (hn0 : n0 ≤ 1048576) (h : HasHop w B' a n hs) (hB' : B' ≤ w.heap.size) (hn : n ≤ 1048576) (hc0 : a = none → c = 0) (hnc : n ≤ c) (hz : ∀ y ∈ zA, TAS.fits y) (ht : (Lit.int .i64 x0).wf = true) (hb : (Lit.int .i64 x1).wf = true) (hr : (Lit.int .i64 r).wf = true) (hi : (Lit.int .i64 i).wf = true) (ho : (Lit.int .i64 o).wf = true) (hrA : bb = true → isAsB n0 r = true) (hM : ∀ (A : Option Addr) (C : Nat) (w1 : World), Mk0 w w1 → HasHop w1 w1.heap.size A n hs → Calls Tryz.prog 69 #[.agg #[.slice a0 n0 c0, .slice a1 n1 c1], .agg #[.int .i64 p.len, .int .i64 p.denied, .int .i64 p.closed, .int .i64 p.life], .agg #[.int .i64 x0, .int .i64 x1, .slice A n C], .agg #[.int .i64 r, .int .i64 i, .int .i64 o, .int .i64 y, .int .i64 z], .int .i64 kd] w1 fun e w' => e = .returned (.bool bb) ∧ Mk0 w1 w') :
    Calls Tryz.prog 42 #[.agg #[.slice a0 n0 c0, .slice a1 n1 c1], .agg #[.int .i64 p.len, .int .i64 p.denied, .int .i64 p.closed, .int .i64 p.life], .agg #[.int .i64 x0, .int .i64 x1, .slice a n c], .agg #[.int .i64 r, .int .i64 i, .int .i64 o, .int .i64 y, .int .i64 z], .int .i64 kd] w (OutTSegment x0 x1 (growR zA p x0 x1 hs n r i o bb) bb w) := by
  have nST : w.heap.size + 1 + 1 ≠ w.heap.size := by omega
  have nSP : w.heap.size + 1 + 1 ≠ w.heap.size + 1 := by omega
  have nSH : w.heap.size + 1 + 1 ≠ w.heap.size + 1 + 1 + 1 := by omega
  have nSR : w.heap.size + 1 + 1 ≠ w.heap.size + 1 + 1 + 1 + 1 := by omega
  have nHT : w.heap.size + 1 + 1 + 1 ≠ w.heap.size := by omega
  have nHP : w.heap.size + 1 + 1 + 1 ≠ w.heap.size + 1 := by omega
  have nHS : w.heap.size + 1 + 1 + 1 ≠ w.heap.size + 1 + 1 := by omega
  have nHR : w.heap.size + 1 + 1 + 1 ≠ w.heap.size + 1 + 1 + 1 + 1 := by omega
  have nRT : w.heap.size + 1 + 1 + 1 + 1 ≠ w.heap.size := by omega
  have nRP : w.heap.size + 1 + 1 + 1 + 1 ≠ w.heap.size + 1 := by omega
  have nRS : w.heap.size + 1 + 1 + 1 + 1 ≠ w.heap.size + 1 + 1 := by omega
  have nRH : w.heap.size + 1 + 1 + 1 + 1 ≠ w.heap.size + 1 + 1 + 1 := by omega
  have leS : w.heap.size ≤ w.heap.size + 1 + 1 := by omega
  have leH : w.heap.size ≤ w.heap.size + 1 + 1 + 1 := by omega
  have leR : w.heap.size ≤ w.heap.size + 1 + 1 + 1 + 1 := by omega
  obtain ⟨i0, hi0, hz0, hz1, hz2⟩ := info_parts infoRHop
  have M0 := ((((Mk.alloc w (Obj.cells #[Value.slice a0 n0 c0, Value.slice a1 n1 c1] 37)).new (Obj.cells #[Value.int .i64 p.len, Value.int .i64 p.denied, Value.int .i64 p.closed, Value.int .i64 p.life] 39)).new (Obj.cells #[Value.int .i64 x0, Value.int .i64 x1, Value.slice a n c] 31)).new (Obj.cells #[Value.int .i64 r, Value.int .i64 i, Value.int .i64 o, Value.int .i64 y, Value.int .i64 z] 72)).new (Obj.cells #[Value.int .i64 0, Value.int .i64 0, Value.slice none 0 0] 31)
  have k0 : (((((w.alloc (Obj.cells #[Value.slice a0 n0 c0, Value.slice a1 n1 c1] 37)).alloc (Obj.cells #[Value.int .i64 p.len, Value.int .i64 p.denied, Value.int .i64 p.closed, Value.int .i64 p.life] 39)).alloc (Obj.cells #[Value.int .i64 x0, Value.int .i64 x1, Value.slice a n c] 31)).alloc (Obj.cells #[Value.int .i64 r, Value.int .i64 i, Value.int .i64 o, Value.int .i64 y, Value.int .i64 z] 72)).alloc (Obj.cells #[Value.int .i64 0, Value.int .i64 0, Value.slice none 0 0] 31)).cell? ⟨w.heap.size, 0, none⟩ = some (.slice a0 n0 c0) := by simp [go_sem]
  have k1 : (((((w.alloc (Obj.cells #[Value.slice a0 n0 c0, Value.slice a1 n1 c1] 37)).alloc (Obj.cells #[Value.int .i64 p.len, Value.int .i64 p.denied, Value.int .i64 p.closed, Value.int .i64 p.life] 39)).alloc (Obj.cells #[Value.int .i64 x0, Value.int .i64 x1, Value.slice a n c] 31)).alloc (Obj.cells #[Value.int .i64 r, Value.int .i64 i, Value.int .i64 o, Value.int .i64 y, Value.int .i64 z] 72)).alloc (Obj.cells #[Value.int .i64 0, Value.int .i64 0, Value.slice none 0 0] 31)).cell? ⟨w.heap.size, 1, none⟩ = some (.slice a1 n1 c1) := by simp [go_sem]
  have p0 : (((((w.alloc (Obj.cells #[Value.slice a0 n0 c0, Value.slice a1 n1 c1] 37)).alloc (Obj.cells #[Value.int .i64 p.len, Value.int .i64 p.denied, Value.int .i64 p.closed, Value.int .i64 p.life] 39)).alloc (Obj.cells #[Value.int .i64 x0, Value.int .i64 x1, Value.slice a n c] 31)).alloc (Obj.cells #[Value.int .i64 r, Value.int .i64 i, Value.int .i64 o, Value.int .i64 y, Value.int .i64 z] 72)).alloc (Obj.cells #[Value.int .i64 0, Value.int .i64 0, Value.slice none 0 0] 31)).cell? ⟨w.heap.size + 1, 0, none⟩ = some (.int .i64 p.len) := by simp [go_sem]
  have p1 : (((((w.alloc (Obj.cells #[Value.slice a0 n0 c0, Value.slice a1 n1 c1] 37)).alloc (Obj.cells #[Value.int .i64 p.len, Value.int .i64 p.denied, Value.int .i64 p.closed, Value.int .i64 p.life] 39)).alloc (Obj.cells #[Value.int .i64 x0, Value.int .i64 x1, Value.slice a n c] 31)).alloc (Obj.cells #[Value.int .i64 r, Value.int .i64 i, Value.int .i64 o, Value.int .i64 y, Value.int .i64 z] 72)).alloc (Obj.cells #[Value.int .i64 0, Value.int .i64 0, Value.slice none 0 0] 31)).cell? ⟨w.heap.size + 1, 1, none⟩ = some (.int .i64 p.denied) := by simp [go_sem]
  have p2 : (((((w.alloc (Obj.cells #[Value.slice a0 n0 c0, Value.slice a1 n1 c1] 37)).alloc (Obj.cells #[Value.int .i64 p.len, Value.int .i64 p.denied, Value.int .i64 p.closed, Value.int .i64 p.life] 39)).alloc (Obj.cells #[Value.int .i64 x0, Value.int .i64 x1, Value.slice a n c] 31)).alloc (Obj.cells #[Value.int .i64 r, Value.int .i64 i, Value.int .i64 o, Value.int .i64 y, Value.int .i64 z] 72)).alloc (Obj.cells #[Value.int .i64 0, Value.int .i64 0, Value.slice none 0 0] 31)).cell? ⟨w.heap.size + 1, 2, none⟩ = some (.int .i64 p.closed) := by simp [go_sem]
  have p3 : (((((w.alloc (Obj.cells #[Value.slice a0 n0 c0, Value.slice a1 n1 c1] 37)).alloc (Obj.cells #[Value.int .i64 p.len, Value.int .i64 p.denied, Value.int .i64 p.closed, Value.int .i64 p.life] 39)).alloc (Obj.cells #[Value.int .i64 x0, Value.int .i64 x1, Value.slice a n c] 31)).alloc (Obj.cells #[Value.int .i64 r, Value.int .i64 i, Value.int .i64 o, Value.int .i64 y, Value.int .i64 z] 72)).alloc (Obj.cells #[Value.int .i64 0, Value.int .i64 0, Value.slice none 0 0] 31)).cell? ⟨w.heap.size + 1, 3, none⟩ = some (.int .i64 p.life) := by simp [go_sem]
  have j0 : (((((w.alloc (Obj.cells #[Value.slice a0 n0 c0, Value.slice a1 n1 c1] 37)).alloc (Obj.cells #[Value.int .i64 p.len, Value.int .i64 p.denied, Value.int .i64 p.closed, Value.int .i64 p.life] 39)).alloc (Obj.cells #[Value.int .i64 x0, Value.int .i64 x1, Value.slice a n c] 31)).alloc (Obj.cells #[Value.int .i64 r, Value.int .i64 i, Value.int .i64 o, Value.int .i64 y, Value.int .i64 z] 72)).alloc (Obj.cells #[Value.int .i64 0, Value.int .i64 0, Value.slice none 0 0] 31)).cell? ⟨w.heap.size + 1 + 1, 0, none⟩ = some (.int .i64 x0) := by simp [go_sem]
  have j1 : (((((w.alloc (Obj.cells #[Value.slice a0 n0 c0, Value.slice a1 n1 c1] 37)).alloc (Obj.cells #[Value.int .i64 p.len, Value.int .i64 p.denied, Value.int .i64 p.closed, Value.int .i64 p.life] 39)).alloc (Obj.cells #[Value.int .i64 x0, Value.int .i64 x1, Value.slice a n c] 31)).alloc (Obj.cells #[Value.int .i64 r, Value.int .i64 i, Value.int .i64 o, Value.int .i64 y, Value.int .i64 z] 72)).alloc (Obj.cells #[Value.int .i64 0, Value.int .i64 0, Value.slice none 0 0] 31)).cell? ⟨w.heap.size + 1 + 1, 1, none⟩ = some (.int .i64 x1) := by simp [go_sem]
  have j2 : (((((w.alloc (Obj.cells #[Value.slice a0 n0 c0, Value.slice a1 n1 c1] 37)).alloc (Obj.cells #[Value.int .i64 p.len, Value.int .i64 p.denied, Value.int .i64 p.closed, Value.int .i64 p.life] 39)).alloc (Obj.cells #[Value.int .i64 x0, Value.int .i64 x1, Value.slice a n c] 31)).alloc (Obj.cells #[Value.int .i64 r, Value.int .i64 i, Value.int .i64 o, Value.int .i64 y, Value.int .i64 z] 72)).alloc (Obj.cells #[Value.int .i64 0, Value.int .i64 0, Value.slice none 0 0] 31)).cell? ⟨w.heap.size + 1 + 1, 2, none⟩ = some (.slice a n c) := by simp [go_sem]
  have q0 : (((((w.alloc (Obj.cells #[Value.slice a0 n0 c0, Value.slice a1 n1 c1] 37)).alloc (Obj.cells #[Value.int .i64 p.len, Value.int .i64 p.denied, Value.int .i64 p.closed, Value.int .i64 p.life] 39)).alloc (Obj.cells #[Value.int .i64 x0, Value.int .i64 x1, Value.slice a n c] 31)).alloc (Obj.cells #[Value.int .i64 r, Value.int .i64 i, Value.int .i64 o, Value.int .i64 y, Value.int .i64 z] 72)).alloc (Obj.cells #[Value.int .i64 0, Value.int .i64 0, Value.slice none 0 0] 31)).cell? ⟨w.heap.size + 1 + 1 + 1, 0, none⟩ = some (.int .i64 r) := by simp [go_sem]
  have q1 : (((((w.alloc (Obj.cells #[Value.slice a0 n0 c0, Value.slice a1 n1 c1] 37)).alloc (Obj.cells #[Value.int .i64 p.len, Value.int .i64 p.denied, Value.int .i64 p.closed, Value.int .i64 p.life] 39)).alloc (Obj.cells #[Value.int .i64 x0, Value.int .i64 x1, Value.slice a n c] 31)).alloc (Obj.cells #[Value.int .i64 r, Value.int .i64 i, Value.int .i64 o, Value.int .i64 y, Value.int .i64 z] 72)).alloc (Obj.cells #[Value.int .i64 0, Value.int .i64 0, Value.slice none 0 0] 31)).cell? ⟨w.heap.size + 1 + 1 + 1, 1, none⟩ = some (.int .i64 i) := by simp [go_sem]
  have q2 : (((((w.alloc (Obj.cells #[Value.slice a0 n0 c0, Value.slice a1 n1 c1] 37)).alloc (Obj.cells #[Value.int .i64 p.len, Value.int .i64 p.denied, Value.int .i64 p.closed, Value.int .i64 p.life] 39)).alloc (Obj.cells #[Value.int .i64 x0, Value.int .i64 x1, Value.slice a n c] 31)).alloc (Obj.cells #[Value.int .i64 r, Value.int .i64 i, Value.int .i64 o, Value.int .i64 y, Value.int .i64 z] 72)).alloc (Obj.cells #[Value.int .i64 0, Value.int .i64 0, Value.slice none 0 0] 31)).cell? ⟨w.heap.size + 1 + 1 + 1, 2, none⟩ = some (.int .i64 o) := by simp [go_sem]
  have q3 : (((((w.alloc (Obj.cells #[Value.slice a0 n0 c0, Value.slice a1 n1 c1] 37)).alloc (Obj.cells #[Value.int .i64 p.len, Value.int .i64 p.denied, Value.int .i64 p.closed, Value.int .i64 p.life] 39)).alloc (Obj.cells #[Value.int .i64 x0, Value.int .i64 x1, Value.slice a n c] 31)).alloc (Obj.cells #[Value.int .i64 r, Value.int .i64 i, Value.int .i64 o, Value.int .i64 y, Value.int .i64 z] 72)).alloc (Obj.cells #[Value.int .i64 0, Value.int .i64 0, Value.slice none 0 0] 31)).cell? ⟨w.heap.size + 1 + 1 + 1, 3, none⟩ = some (.int .i64 y) := by simp [go_sem]
  have q4 : (((((w.alloc (Obj.cells #[Value.slice a0 n0 c0, Value.slice a1 n1 c1] 37)).alloc (Obj.cells #[Value.int .i64 p.len, Value.int .i64 p.denied, Value.int .i64 p.closed, Value.int .i64 p.life] 39)).alloc (Obj.cells #[Value.int .i64 x0, Value.int .i64 x1, Value.slice a n c] 31)).alloc (Obj.cells #[Value.int .i64 r, Value.int .i64 i, Value.int .i64 o, Value.int .i64 y, Value.int .i64 z] 72)).alloc (Obj.cells #[Value.int .i64 0, Value.int .i64 0, Value.slice none 0 0] 31)).cell? ⟨w.heap.size + 1 + 1 + 1, 4, none⟩ = some (.int .i64 z) := by simp [go_sem]
  have r0 : (((((w.alloc (Obj.cells #[Value.slice a0 n0 c0, Value.slice a1 n1 c1] 37)).alloc (Obj.cells #[Value.int .i64 p.len, Value.int .i64 p.denied, Value.int .i64 p.closed, Value.int .i64 p.life] 39)).alloc (Obj.cells #[Value.int .i64 x0, Value.int .i64 x1, Value.slice a n c] 31)).alloc (Obj.cells #[Value.int .i64 r, Value.int .i64 i, Value.int .i64 o, Value.int .i64 y, Value.int .i64 z] 72)).alloc (Obj.cells #[Value.int .i64 0, Value.int .i64 0, Value.slice none 0 0] 31)).cell? ⟨w.heap.size + 1 + 1 + 1 + 1, 0, none⟩ = some (.int .i64 0) := by simp [go_sem]
  have r1 : (((((w.alloc (Obj.cells #[Value.slice a0 n0 c0, Value.slice a1 n1 c1] 37)).alloc (Obj.cells #[Value.int .i64 p.len, Value.int .i64 p.denied, Value.int .i64 p.closed, Value.int .i64 p.life] 39)).alloc (Obj.cells #[Value.int .i64 x0, Value.int .i64 x1, Value.slice a n c] 31)).alloc (Obj.cells #[Value.int .i64 r, Value.int .i64 i, Value.int .i64 o, Value.int .i64 y, Value.int .i64 z] 72)).alloc (Obj.cells #[Value.int .i64 0, Value.int .i64 0, Value.slice none 0 0] 31)).cell? ⟨w.heap.size + 1 + 1 + 1 + 1, 1, none⟩ = some (.int .i64 0) := by simp [go_sem]
  have r2 : (((((w.alloc (Obj.cells #[Value.slice a0 n0 c0, Value.slice a1 n1 c1] 37)).alloc (Obj.cells #[Value.int .i64 p.len, Value.int .i64 p.denied, Value.int .i64 p.closed, Value.int .i64 p.life] 39)).alloc (Obj.cells #[Value.int .i64 x0, Value.int .i64 x1, Value.slice a n c] 31)).alloc (Obj.cells #[Value.int .i64 r, Value.int .i64 i, Value.int .i64 o, Value.int .i64 y, Value.int .i64 z] 72)).alloc (Obj.cells #[Value.int .i64 0, Value.int .i64 0, Value.slice none 0 0] 31)).cell? ⟨w.heap.size + 1 + 1 + 1 + 1, 2, none⟩ = some (.slice none 0 0) := by simp [go_sem]
  have fS : ∀ q, (((((w.alloc (Obj.cells #[Value.slice a0 n0 c0, Value.slice a1 n1 c1] 37)).alloc (Obj.cells #[Value.int .i64 p.len, Value.int .i64 p.denied, Value.int .i64 p.closed, Value.int .i64 p.life] 39)).alloc (Obj.cells #[Value.int .i64 x0, Value.int .i64 x1, Value.slice a n c] 31)).alloc (Obj.cells #[Value.int .i64 r, Value.int .i64 i, Value.int .i64 o, Value.int .i64 y, Value.int .i64 z] 72)).alloc (Obj.cells #[Value.int .i64 0, Value.int .i64 0, Value.slice none 0 0] 31)).frozen? ⟨w.heap.size + 1 + 1, q, none⟩ = false := fun q => by simp [go_sem]
  have fH : ∀ q, (((((w.alloc (Obj.cells #[Value.slice a0 n0 c0, Value.slice a1 n1 c1] 37)).alloc (Obj.cells #[Value.int .i64 p.len, Value.int .i64 p.denied, Value.int .i64 p.closed, Value.int .i64 p.life] 39)).alloc (Obj.cells #[Value.int .i64 x0, Value.int .i64 x1, Value.slice a n c] 31)).alloc (Obj.cells #[Value.int .i64 r, Value.int .i64 i, Value.int .i64 o, Value.int .i64 y, Value.int .i64 z] 72)).alloc (Obj.cells #[Value.int .i64 0, Value.int .i64 0, Value.slice none 0 0] 31)).frozen? ⟨w.heap.size + 1 + 1 + 1, q, none⟩ = false := fun q => by simp [go_sem]
  have fR : ∀ q, (((((w.alloc (Obj.cells #[Value.slice a0 n0 c0, Value.slice a1 n1 c1] 37)).alloc (Obj.cells #[Value.int .i64 p.len, Value.int .i64 p.denied, Value.int .i64 p.closed, Value.int .i64 p.life] 39)).alloc (Obj.cells #[Value.int .i64 x0, Value.int .i64 x1, Value.slice a n c] 31)).alloc (Obj.cells #[Value.int .i64 r, Value.int .i64 i, Value.int .i64 o, Value.int .i64 y, Value.int .i64 z] 72)).alloc (Obj.cells #[Value.int .i64 0, Value.int .i64 0, Value.slice none 0 0] 31)).frozen? ⟨w.heap.size + 1 + 1 + 1 + 1, q, none⟩ = false := fun q => by simp [go_sem]
  have hs5 : (((((w.alloc (Obj.cells #[Value.slice a0 n0 c0, Value.slice a1 n1 c1] 37)).alloc (Obj.cells #[Value.int .i64 p.len, Value.int .i64 p.denied, Value.int .i64 p.closed, Value.int .i64 p.life] 39)).alloc (Obj.cells #[Value.int .i64 x0, Value.int .i64 x1, Value.slice a n c] 31)).alloc (Obj.cells #[Value.int .i64 r, Value.int .i64 i, Value.int .i64 o, Value.int .i64 y, Value.int .i64 z] 72)).alloc (Obj.cells #[Value.int .i64 0, Value.int .i64 0, Value.slice none 0 0] 31)).heap.size = w.heap.size + 1 + 1 + 1 + 1 + 1 := by simp only [World.size_alloc]
  have HZ := Lib.hid hz
  clear hz
  have hlz := h.1
  go_enter Tryz.func42, Tryz.ntmps42
  go_wp2_with fail
  generalize (((((w.alloc (Obj.cells #[Value.slice a0 n0 c0, Value.slice a1 n1 c1] 37)).alloc (Obj.cells #[Value.int .i64 p.len, Value.int .i64 p.denied, Value.int .i64 p.closed, Value.int .i64 p.life] 39)).alloc (Obj.cells #[Value.int .i64 x0, Value.int .i64 x1, Value.slice a n c] 31)).alloc (Obj.cells #[Value.int .i64 r, Value.int .i64 i, Value.int .i64 o, Value.int .i64 y, Value.int .i64 z] 72)).alloc (Obj.cells #[Value.int .i64 0, Value.int .i64 0, Value.slice none 0 0] 31)) = WW at *
  refine (implCloneSeg x0 x1 a n c B' hs _ (h.mk M0 hB' (.inr (Nat.le_refl _))) (Nat.le_trans hB' M0.size) hn hc0 hnc).mono ?_
  rintro e w2 ⟨A, N, C, rfl, hown, m2⟩
  have hNn := hown.1
  have hNn := ownsRow_lenR (by decide) hown
  obtain rfl : n = N := hlz.symm.trans hNn
  clear hNn
  replace k0 := m2.cellAt k0
  replace k1 := m2.cellAt k1
  replace p0 := m2.cellAt p0
  replace p1 := m2.cellAt p1
  replace p2 := m2.cellAt p2
  replace p3 := m2.cellAt p3
  replace j0 := m2.cellAt j0
  replace j1 := m2.cellAt j1
  replace j2 := m2.cellAt j2
  replace q0 := m2.cellAt q0
  replace q1 := m2.cellAt q1
  replace q2 := m2.cellAt q2
  replace q3 := m2.cellAt q3
  replace q4 := m2.cellAt q4
  replace r0 := m2.cellAt r0
  replace r1 := m2.cellAt r1
  replace r2 := m2.cellAt r2
  replace fS := fun qq => (m2.frozen (b := w.heap.size + 1 + 1) (o := qq) (by omega) (.inr (Nat.zero_le _))).trans (fS qq)
  replace fH := fun qq => (m2.frozen (b := w.heap.size + 1 + 1 + 1) (o := qq) (by omega) (.inr (Nat.zero_le _))).trans (fH qq)
  replace fR := fun qq => (m2.frozen (b := w.heap.size + 1 + 1 + 1 + 1) (o := qq) (by omega) (.inr (Nat.zero_le _))).trans (fR qq)
  have M := M0.trans m2
  have zz2 := m2.size
  have hlo : w.heap.size + 1 + 1 + 1 + 1 < WW.heap.size := by omega
  have ltS : w.heap.size + 1 + 1 < WW.heap.size := by omega
  have ltH : w.heap.size + 1 + 1 + 1 < WW.heap.size := by omega
  have ltR : w.heap.size + 1 + 1 + 1 + 1 < WW.heap.size := by omega
  go_wp2_with fail
  replace k0 := cell_set k0 ⟨w.heap.size + 1 + 1, 0, none⟩ (.int .i64 x0) (.inl nST)
  replace k1 := cell_set k1 ⟨w.heap.size + 1 + 1, 0, none⟩ (.int .i64 x0) (.inl nST)
  replace p0 := cell_set p0 ⟨w.heap.size + 1 + 1, 0, none⟩ (.int .i64 x0) (.inl nSP)
  replace p1 := cell_set p1 ⟨w.heap.size + 1 + 1, 0, none⟩ (.int .i64 x0) (.inl nSP)
  replace p2 := cell_set p2 ⟨w.heap.size + 1 + 1, 0, none⟩ (.int .i64 x0) (.inl nSP)
  replace p3 := cell_set p3 ⟨w.heap.size + 1 + 1, 0, none⟩ (.int .i64 x0) (.inl nSP)
  replace j0 := World.cell?_setCell_same _ _ (.int .i64 x0) j0
  replace j1 := cell_set j1 ⟨w.heap.size + 1 + 1, 0, none⟩ (.int .i64 x0) (.inr (by simp))
  replace j2 := cell_set j2 ⟨w.heap.size + 1 + 1, 0, none⟩ (.int .i64 x0) (.inr (by simp))
  replace q0 := cell_set q0 ⟨w.heap.size + 1 + 1, 0, none⟩ (.int .i64 x0) (.inl nSH)
  replace q1 := cell_set q1 ⟨w.heap.size + 1 + 1, 0, none⟩ (.int .i64 x0) (.inl nSH)
  replace q2 := cell_set q2 ⟨w.heap.size + 1 + 1, 0, none⟩ (.int .i64 x0) (.inl nSH)
  replace q3 := cell_set q3 ⟨w.heap.size + 1 + 1, 0, none⟩ (.int .i64 x0) (.inl nSH)
  replace q4 := cell_set q4 ⟨w.heap.size + 1 + 1, 0, none⟩ (.int .i64 x0) (.inl nSH)
  replace r0 := cell_set r0 ⟨w.heap.size + 1 + 1, 0, none⟩ (.int .i64 x0) (.inl nSR)
  replace r1 := cell_set r1 ⟨w.heap.size + 1 + 1, 0, none⟩ (.int .i64 x0) (.inl nSR)
  replace r2 := cell_set r2 ⟨w.heap.size + 1 + 1, 0, none⟩ (.int .i64 x0) (.inl nSR)
  replace fS := fun qq => frozen_set (fS qq) ⟨w.heap.size + 1 + 1, 0, none⟩ (.int .i64 x0)
  replace fH := fun qq => frozen_set (fH qq) ⟨w.heap.size + 1 + 1, 0, none⟩ (.int .i64 x0)
  replace fR := fun qq => frozen_set (fR qq) ⟨w.heap.size + 1 + 1, 0, none⟩ (.int .i64 x0)
  replace hown := own_put hown ⟨w.heap.size + 1 + 1, 0, none⟩ (.int .i64 x0) ltS
  replace M := M.put ⟨w.heap.size + 1 + 1, 0, none⟩ (.int .i64 x0) leS
  replace k0 := cell_set k0 ⟨w.heap.size + 1 + 1, 1, none⟩ (.int .i64 x1) (.inl nST)
  replace k1 := cell_set k1 ⟨w.heap.size + 1 + 1, 1, none⟩ (.int .i64 x1) (.inl nST)
  replace p0 := cell_set p0 ⟨w.heap.size + 1 + 1, 1, none⟩ (.int .i64 x1) (.inl nSP)
  replace p1 := cell_set p1 ⟨w.heap.size + 1 + 1, 1, none⟩ (.int .i64 x1) (.inl nSP)
  replace p2 := cell_set p2 ⟨w.heap.size + 1 + 1, 1, none⟩ (.int .i64 x1) (.inl nSP)
  replace p3 := cell_set p3 ⟨w.heap.size + 1 + 1, 1, none⟩ (.int .i64 x1) (.inl nSP)
  replace j0 := cell_set j0 ⟨w.heap.size + 1 + 1, 1, none⟩ (.int .i64 x1) (.inr (by simp))
  replace j1 := World.cell?_setCell_same _ _ (.int .i64 x1) j1
  replace j2 := cell_set j2 ⟨w.heap.size + 1 + 1, 1, none⟩ (.int .i64 x1) (.inr (by simp))
  replace q0 := cell_set q0 ⟨w.heap.size + 1 + 1, 1, none⟩ (.int .i64 x1) (.inl nSH)
  replace q1 := cell_set q1 ⟨w.heap.size + 1 + 1, 1, none⟩ (.int .i64 x1) (.inl nSH)
  replace q2 := cell_set q2 ⟨w.heap.size + 1 + 1, 1, none⟩ (.int .i64 x1) (.inl nSH)
  replace q3 := cell_set q3 ⟨w.heap.size + 1 + 1, 1, none⟩ (.int .i64 x1) (.inl nSH)
  replace q4 := cell_set q4 ⟨w.heap.size + 1 + 1, 1, none⟩ (.int .i64 x1) (.inl nSH)
  replace r0 := cell_set r0 ⟨w.heap.size + 1 + 1, 1, none⟩ (.int .i64 x1) (.inl nSR)
  replace r1 := cell_set r1 ⟨w.heap.size + 1 + 1, 1, none⟩ (.int .i64 x1) (.inl nSR)
  replace r2 := cell_set r2 ⟨w.heap.size + 1 + 1, 1, none⟩ (.int .i64 x1) (.inl nSR)
  replace fS := fun qq => frozen_set (fS qq) ⟨w.heap.size + 1 + 1, 1, none⟩ (.int .i64 x1)
  replace fH := fun qq => frozen_set (fH qq) ⟨w.heap.size + 1 + 1, 1, none⟩ (.int .i64 x1)
  replace fR := fun qq => frozen_set (fR qq) ⟨w.heap.size + 1 + 1, 1, none⟩ (.int .i64 x1)
  replace hown := own_put hown ⟨w.heap.size + 1 + 1, 1, none⟩ (.int .i64 x1) ltS
  replace M := M.put ⟨w.heap.size + 1 + 1, 1, none⟩ (.int .i64 x1) leS
  replace k0 := cell_set k0 ⟨w.heap.size + 1 + 1, 2, none⟩ (.slice A n C) (.inl nST)
  replace k1 := cell_set k1 ⟨w.heap.size + 1 + 1, 2, none⟩ (.slice A n C) (.inl nST)
  replace p0 := cell_set p0 ⟨w.heap.size + 1 + 1, 2, none⟩ (.slice A n C) (.inl nSP)
  replace p1 := cell_set p1 ⟨w.heap.size + 1 + 1, 2, none⟩ (.slice A n C) (.inl nSP)
  replace p2 := cell_set p2 ⟨w.heap.size + 1 + 1, 2, none⟩ (.slice A n C) (.inl nSP)
  replace p3 := cell_set p3 ⟨w.heap.size + 1 + 1, 2, none⟩ (.slice A n C) (.inl nSP)
  replace j0 := cell_set j0 ⟨w.heap.size + 1 + 1, 2, none⟩ (.slice A n C) (.inr (by simp))
  replace j1 := cell_set j1 ⟨w.heap.size + 1 + 1, 2, none⟩ (.slice A n C) (.inr (by simp))
  replace j2 := World.cell?_setCell_same _ _ (.slice A n C) j2
  replace q0 := cell_set q0 ⟨w.heap.size + 1 + 1, 2, none⟩ (.slice A n C) (.inl nSH)
  replace q1 := cell_set q1 ⟨w.heap.size + 1 + 1, 2, none⟩ (.slice A n C) (.inl nSH)
  replace q2 := cell_set q2 ⟨w.heap.size + 1 + 1, 2, none⟩ (.slice A n C) (.inl nSH)
  replace q3 := cell_set q3 ⟨w.heap.size + 1 + 1, 2, none⟩ (.slice A n C) (.inl nSH)
  replace q4 := cell_set q4 ⟨w.heap.size + 1 + 1, 2, none⟩ (.slice A n C) (.inl nSH)
  replace r0 := cell_set r0 ⟨w.heap.size + 1 + 1, 2, none⟩ (.slice A n C) (.inl nSR)
  replace r1 := cell_set r1 ⟨w.heap.size + 1 + 1, 2, none⟩ (.slice A n C) (.inl nSR)
  replace r2 := cell_set r2 ⟨w.heap.size + 1 + 1, 2, none⟩ (.slice A n C) (.inl nSR)
  replace fS := fun qq => frozen_set (fS qq) ⟨w.heap.size + 1 + 1, 2, none⟩ (.slice A n C)
  replace fH := fun qq => frozen_set (fH qq) ⟨w.heap.size + 1 + 1, 2, none⟩ (.slice A n C)
  replace fR := fun qq => frozen_set (fR qq) ⟨w.heap.size + 1 + 1, 2, none⟩ (.slice A n C)
  replace hown := own_put hown ⟨w.heap.size + 1 + 1, 2, none⟩ (.slice A n C) ltS
  replace M := M.put ⟨w.heap.size + 1 + 1, 2, none⟩ (.slice A n C) leS
  have zz3 : (((w2.setCell ⟨w.heap.size + 1 + 1, 0, none⟩ (.int .i64 x0)).setCell ⟨w.heap.size + 1 + 1, 1, none⟩ (.int .i64 x1)).setCell ⟨w.heap.size + 1 + 1, 2, none⟩ (.slice A n C)).heap.size = w2.heap.size := by simp only [World.size_set]
  generalize (((w2.setCell ⟨w.heap.size + 1 + 1, 0, none⟩ (.int .i64 x0)).setCell ⟨w.heap.size + 1 + 1, 1, none⟩ (.int .i64 x1)).setCell ⟨w.heap.size + 1 + 1, 2, none⟩ (.slice A n C)) = w3 at *
  have o3 := ownsRow_ownR (by decide) hown
  have hh3 : HasHop w3 w3.heap.size A n hs := o3.has
  refine (hM A C w3 M hh3).mono ?_
  rintro e w4 ⟨rfl, m4⟩
  have hsz3 : w.heap.size + 1 + 1 + 1 + 1 < w3.heap.size := by omega
  replace k0 := m4.cellAt k0
  replace k1 := m4.cellAt k1
  replace p0 := m4.cellAt p0
  replace p1 := m4.cellAt p1
  replace p2 := m4.cellAt p2
  replace p3 := m4.cellAt p3
  replace j0 := m4.cellAt j0
  replace j1 := m4.cellAt j1
  replace j2 := m4.cellAt j2
  replace q0 := m4.cellAt q0
  replace q1 := m4.cellAt q1
  replace q2 := m4.cellAt q2
  replace q3 := m4.cellAt q3
  replace q4 := m4.cellAt q4
  replace r0 := m4.cellAt r0
  replace r1 := m4.cellAt r1
  replace r2 := m4.cellAt r2
  replace fS := fun qq => (m4.frozen (b := w.heap.size + 1 + 1) (o := qq) (by omega) (.inr (Nat.zero_le _))).trans (fS qq)
  replace fH := fun qq => (m4.frozen (b := w.heap.size + 1 + 1 + 1) (o := qq) (by omega) (.inr (Nat.zero_le _))).trans (fH qq)
  replace fR := fun qq => (m4.frozen (b := w.heap.size + 1 + 1 + 1 + 1) (o := qq) (by omega) (.inr (Nat.zero_le _))).trans (fR qq)
  replace M := M.trans m4
  replace hown := own_keptR hown m4
  have zz4 := m4.size
  clear o3 hh3
  cases bb
  · go_wp2_with fail
    replace r0 := World.cell?_setCell_same _ _ (.int .i64 x0) r0
    replace r1 := cell_set r1 ⟨w.heap.size + 1 + 1 + 1 + 1, 0, none⟩ (.int .i64 x0) (.inr (by simp))
    replace r2 := cell_set r2 ⟨w.heap.size + 1 + 1 + 1 + 1, 0, none⟩ (.int .i64 x0) (.inr (by simp))
    replace hown := own_put hown ⟨w.heap.size + 1 + 1 + 1 + 1, 0, none⟩ (.int .i64 x0) ltR
    replace M := M.put ⟨w.heap.size + 1 + 1 + 1 + 1, 0, none⟩ (.int .i64 x0) leR
    replace r0 := cell_set r0 ⟨w.heap.size + 1 + 1 + 1 + 1, 1, none⟩ (.int .i64 x1) (.inr (by simp))
    replace r1 := World.cell?_setCell_same _ _ (.int .i64 x1) r1
    replace r2 := cell_set r2 ⟨w.heap.size + 1 + 1 + 1 + 1, 1, none⟩ (.int .i64 x1) (.inr (by simp))
    replace hown := own_put hown ⟨w.heap.size + 1 + 1 + 1 + 1, 1, none⟩ (.int .i64 x1) ltR
    replace M := M.put ⟨w.heap.size + 1 + 1 + 1 + 1, 1, none⟩ (.int .i64 x1) leR
    replace r0 := cell_set r0 ⟨w.heap.size + 1 + 1 + 1 + 1, 2, none⟩ (.slice A n C) (.inr (by simp))
    replace r1 := cell_set r1 ⟨w.heap.size + 1 + 1 + 1 + 1, 2, none⟩ (.slice A n C) (.inr (by simp))
    replace r2 := World.cell?_setCell_same _ _ (.slice A n C) r2
    replace hown := own_put hown ⟨w.heap.size + 1 + 1 + 1 + 1, 2, none⟩ (.slice A n C) ltR
    replace M := M.put ⟨w.heap.size + 1 + 1 + 1 + 1, 2, none⟩ (.slice A n C) leR
    generalize (((w4.setCell ⟨w.heap.size + 1 + 1 + 1 + 1, 0, none⟩ (.int .i64 x0)).setCell ⟨w.heap.size + 1 + 1 + 1 + 1, 1, none⟩ (.int .i64 x1)).setCell ⟨w.heap.size + 1 + 1 + 1 + 1, 2, none⟩ (.slice A n C)) = wF at *
    obtain ⟨_, _, e9, hca, hcb⟩ := ownsRow_sliceR2 hown
    cases e9
    exact bodyPost_ret (v := .tuple #[.agg #[.int .i64 x0, .int .i64 x1, .slice A n C], .bool false]) (by simp [results, Tryz.results42, go_sem, r0, r1, r2]) rfl ⟨_, _, _, rfl, ⟨hca, hcb⟩, (ownsRow_ownR (by decide) hown).wide (by omega) (Nat.le_refl _), M⟩
  · have hrt := hrA rfl
    obtain ⟨q, rfl, hq⟩ := isAsNG hrt
    go_wp2_with fail
    refine (implExpFor p x0 _).mono ?_
    rintro e w5 ⟨rfl, m5⟩
    have hsz4 : w.heap.size + 1 + 1 + 1 + 1 < w4.heap.size := by omega
    replace k0 := m5.cellAt k0
    replace k1 := m5.cellAt k1
    replace p0 := m5.cellAt p0
    replace p1 := m5.cellAt p1
    replace p2 := m5.cellAt p2
    replace p3 := m5.cellAt p3
    replace j0 := m5.cellAt j0
    replace j1 := m5.cellAt j1
    replace j2 := m5.cellAt j2
    replace q0 := m5.cellAt q0
    replace q1 := m5.cellAt q1
    replace q2 := m5.cellAt q2
    replace q3 := m5.cellAt q3
    replace q4 := m5.cellAt q4
    replace r0 := m5.cellAt r0
    replace r1 := m5.cellAt r1
    replace r2 := m5.cellAt r2
    replace fS := fun qq => (m5.frozen (b := w.heap.size + 1 + 1) (o := qq) (by omega) (.inr (Nat.zero_le _))).trans (fS qq)
    replace fH := fun qq => (m5.frozen (b := w.heap.size + 1 + 1 + 1) (o := qq) (by omega) (.inr (Nat.zero_le _))).trans (fH qq)
    replace fR := fun qq => (m5.frozen (b := w.heap.size + 1 + 1 + 1 + 1) (o := qq) (by omega) (.inr (Nat.zero_le _))).trans (fR qq)
    replace M := M.trans m5
    replace hown := own_keptR hown m5
    have zz5 := m5.size
    obtain ⟨ev, hev⟩ : ∃ ev, Hid (ev = exV p x0) := ⟨_, Lib.hid rfl⟩
    have HEF := Lib.hid (exV_fits p x0)
    rw [show minV (wrap64 (x0 + p.life)) 1000000 = ev from hev.out.symm]
    rw [← hev.out] at HEF
    go_wp2_with fail
    replace k0 := cell_set k0 ⟨w.heap.size + 1 + 1 + 1, 3, none⟩ (.int .i64 ev) (.inl nHT)
    replace k1 := cell_set k1 ⟨w.heap.size + 1 + 1 + 1, 3, none⟩ (.int .i64 ev) (.inl nHT)
    replace p0 := cell_set p0 ⟨w.heap.size + 1 + 1 + 1, 3, none⟩ (.int .i64 ev) (.inl nHP)
    replace p1 := cell_set p1 ⟨w.heap.size + 1 + 1 + 1, 3, none⟩ (.int .i64 ev) (.inl nHP)
    replace p2 := cell_set p2 ⟨w.heap.size + 1 + 1 + 1, 3, none⟩ (.int .i64 ev) (.inl nHP)
    replace p3 := cell_set p3 ⟨w.heap.size + 1 + 1 + 1, 3, none⟩ (.int .i64 ev) (.inl nHP)
    replace j0 := cell_set j0 ⟨w.heap.size + 1 + 1 + 1, 3, none⟩ (.int .i64 ev) (.inl nHS)
    replace j1 := cell_set j1 ⟨w.heap.size + 1 + 1 + 1, 3, none⟩ (.int .i64 ev) (.inl nHS)
    replace j2 := cell_set j2 ⟨w.heap.size + 1 + 1 + 1, 3, none⟩ (.int .i64 ev) (.inl nHS)
    replace q0 := cell_set q0 ⟨w.heap.size + 1 + 1 + 1, 3, none⟩ (.int .i64 ev) (.inr (by simp))
    replace q1 := cell_set q1 ⟨w.heap.size + 1 + 1 + 1, 3, none⟩ (.int .i64 ev) (.inr (by simp))
    replace q2 := cell_set q2 ⟨w.heap.size + 1 + 1 + 1, 3, none⟩ (.int .i64 ev) (.inr (by simp))
    replace q3 := World.cell?_setCell_same _ _ (.int .i64 ev) q3
    replace q4 := cell_set q4 ⟨w.heap.size + 1 + 1 + 1, 3, none⟩ (.int .i64 ev) (.inr (by simp))
    replace r0 := cell_set r0 ⟨w.heap.size + 1 + 1 + 1, 3, none⟩ (.int .i64 ev) (.inl nHR)
    replace r1 := cell_set r1 ⟨w.heap.size + 1 + 1 + 1, 3, none⟩ (.int .i64 ev) (.inl nHR)
    replace r2 := cell_set r2 ⟨w.heap.size + 1 + 1 + 1, 3, none⟩ (.int .i64 ev) (.inl nHR)
    replace fS := fun qq => frozen_set (fS qq) ⟨w.heap.size + 1 + 1 + 1, 3, none⟩ (.int .i64 ev)
    replace fH := fun qq => frozen_set (fH qq) ⟨w.heap.size + 1 + 1 + 1, 3, none⟩ (.int .i64 ev)
    replace fR := fun qq => frozen_set (fR qq) ⟨w.heap.size + 1 + 1 + 1, 3, none⟩ (.int .i64 ev)
    replace hown := own_put hown ⟨w.heap.size + 1 + 1 + 1, 3, none⟩ (.int .i64 ev) ltH
    replace M := M.put ⟨w.heap.size + 1 + 1 + 1, 3, none⟩ (.int .i64 ev) leH
    have zz6 : (w5.setCell ⟨w.heap.size + 1 + 1 + 1, 3, none⟩ (.int .i64 ev)).heap.size = w5.heap.size := by simp only [World.size_set]
    generalize (w5.setCell ⟨w.heap.size + 1 + 1 + 1, 3, none⟩ (.int .i64 ev)) = w6 at *
    have hh6 : HasHop w6 w6.heap.size A n hs := (ownsRow_ownR (by decide) hown).has
    obtain ⟨bA, oA, x, rfl, hbA, hx, d0, d1, d2⟩ := HasAS.at _ _ _ _ _ _ (hA.mk M hB (.inr (Nat.le_refl _))) hq
    have hbr := World.block_lt_of_cell? _ _ d2
    simp only at hbr
    have i1 : (0 : Int) ≤ (q : Int) := by omega
    have i2 : (q : Int) < (n0 : Int) := by omega
    have HK := Lib.hid (asFitsG hA.1 hq HZ.out hx.out)
    obtain ⟨β, hβ⟩ : ∃ β, Hid (β = betaV x1 hs n (n : Int)) := ⟨_, Lib.hid rfl⟩
    have HBF := Lib.hid (show (Lit.int .i64 β).wf = true by rw [hβ.out, betaV_bUp (Nat.le_refl _)]; exact bUp_fits hb hs n)
    have HH := Lib.hid (hopL_fits ht HBF.out (x := ⟨(q : Int), i, o, ev, 0⟩) ⟨hr, hi, ho, HEF.out, (show (Lit.int .i64 0).wf = true by decide)⟩)
    obtain ⟨mv, hmv⟩ : ∃ mv, Hid (mv = macV x.key (hopL x0 β (q : Int) i o ev)) := ⟨_, Lib.hid rfl⟩
    have HN := Lib.hid (show nwHop zA p x0 x1 hs n (q : Int) i o = ⟨(q : Int), i, o, ev, mv⟩ by unfold nwHop nwMac; rw [Int.toNat_natCast, ← hx.out, ← hev.out, ← hβ.out, ← hmv.out])
    go_wp2_with fail
    refine wp_region_wkt (fun w' => Mk0 w6 w' ∧ w'.cell? ⟨w.heap.size, 0, none⟩ = some (.slice (some ⟨bA, oA, none⟩) n0 c0) ∧ w'.cell? ⟨w.heap.size, 1, none⟩ = some (.slice a1 n1 c1) ∧ w'.cell? ⟨w.heap.size + 1 + 1, 0, none⟩ = some (.int .i64 x0) ∧ w'.cell? ⟨w.heap.size + 1 + 1, 1, none⟩ = some (.int .i64 x1) ∧ w'.cell? ⟨w.heap.size + 1 + 1, 2, none⟩ = some (.slice A n C) ∧ w'.cell? ⟨w.heap.size + 1 + 1 + 1, 0, none⟩ = some (.int .i64 (q : Int)) ∧ w'.cell? ⟨w.heap.size + 1 + 1 + 1, 1, none⟩ = some (.int .i64 i) ∧ w'.cell? ⟨w.heap.size + 1 + 1 + 1, 2, none⟩ = some (.int .i64 o) ∧ w'.cell? ⟨w.heap.size + 1 + 1 + 1, 3, none⟩ = some (.int .i64 ev) ∧ w'.cell? ⟨w.heap.size + 1 + 1 + 1, 4, none⟩ = some (.int .i64 z) ∧ w'.cell? ⟨w.heap.size + 1 + 1 + 1 + 1, 0, none⟩ = some (.int .i64 0) ∧ w'.cell? ⟨w.heap.size + 1 + 1 + 1 + 1, 1, none⟩ = some (.int .i64 0) ∧ w'.cell? ⟨w.heap.size + 1 + 1 + 1 + 1, 2, none⟩ = some (.slice none 0 0) ∧ w'.cell? ⟨bA, oA + q * 3 + 2, none⟩ = some (.int .i64 x.key)) 16 (by kernel_rfl) (by kernel_rfl) (by kernel_rfl) (by decide) (⟨Mk.drew1 _, k0, k1, j0, j1, j2, q0, q1, q2, q3, q4, r0, r1, r2, d2⟩) ?_
    change WkT _ _ _ _ _ 16 0 _
    first | (refine WkT.skip (m := 15) (k := 0) rfl (by rfl) ?_) | (refine WkT.pure (m := 15) (k := 0) (v := _) rfl (by rfl) (fun wv => by go_simp; try with_reducible rfl) ?_) | (refine WkT.step (m := 15) (k := 0) (v := _) rfl (by rfl) (by kernel_rfl) (fun wv hS => by obtain ⟨s0, s1, s2, s3, s4, s5, s6, s7, s8, s9, s10, s11, s12, s13, s14⟩ := hS; go_simp; try with_reducible rfl) ?_)
    try simp only [Act.put, List.getElem_toArray, List.getElem_cons_zero, List.setIfInBounds_toArray, List.set_cons_zero, List.set_cons_succ]
    first | (refine WkT.skip (m := 14) (k := 1) rfl (by rfl) ?_) | (refine WkT.pure (m := 14) (k := 1) (v := _) rfl (by rfl) (fun wv => by go_simp; try with_reducible rfl) ?_) | (refine WkT.step (m := 14) (k := 1) (v := _) rfl (by rfl) (by kernel_rfl) (fun wv hS => by obtain ⟨s0, s1, s2, s3, s4, s5, s6, s7, s8, s9, s10, s11, s12, s13, s14⟩ := hS; go_simp; try with_reducible rfl) ?_)
    try simp only [Act.put, List.getElem_toArray, List.getElem_cons_succ, List.getElem_cons_zero, List.setIfInBounds_toArray, List.set_cons_zero, List.set_cons_succ]
    first | (refine WkT.skip (m := 13) (k := 2) rfl (by rfl) ?_) | (refine WkT.pure (m := 13) (k := 2) (v := _) rfl (by rfl) (fun wv => by go_simp; try with_reducible rfl) ?_) | (refine WkT.step (m := 13) (k := 2) (v := _) rfl (by rfl) (by kernel_rfl) (fun wv hS => by obtain ⟨s0, s1, s2, s3, s4, s5, s6, s7, s8, s9, s10, s11, s12, s13, s14⟩ := hS; go_simp; try with_reducible rfl) ?_)
    try simp only [Act.put, List.getElem_toArray, List.getElem_cons_succ, List.getElem_cons_zero, List.setIfInBounds_toArray, List.set_cons_zero, List.set_cons_succ]
    first | (refine WkT.skip (m := 12) (k := 3) rfl (by rfl) ?_) | (refine WkT.pure (m := 12) (k := 3) (v := _) rfl (by rfl) (fun wv => by go_simp; try with_reducible rfl) ?_) | (refine WkT.step (m := 12) (k := 3) (v := _) rfl (by rfl) (by kernel_rfl) (fun wv hS => by obtain ⟨s0, s1, s2, s3, s4, s5, s6, s7, s8, s9, s10, s11, s12, s13, s14⟩ := hS; go_simp; try with_reducible rfl) ?_)
    try simp only [Act.put, List.getElem_toArray, List.getElem_cons_succ, List.getElem_cons_zero, List.setIfInBounds_toArray, List.set_cons_zero, List.set_cons_succ]
    first | (refine WkT.skip (m := 11) (k := 4) rfl (by rfl) ?_) | (refine WkT.pure (m := 11) (k := 4) (v := _) rfl (by rfl) (fun wv => by go_simp; try with_reducible rfl) ?_) | (refine WkT.step (m := 11) (k := 4) (v := _) rfl (by rfl) (by kernel_rfl) (fun wv hS => by obtain ⟨s0, s1, s2, s3, s4, s5, s6, s7, s8, s9, s10, s11, s12, s13, s14⟩ := hS; go_simp; try with_reducible rfl) ?_)
    try simp only [Act.put, List.getElem_toArray, List.getElem_cons_succ, List.getElem_cons_zero, List.setIfInBounds_toArray, List.set_cons_zero, List.set_cons_succ]
    first | (refine WkT.skip (m := 10) (k := 5) rfl (by rfl) ?_) | (refine WkT.pure (m := 10) (k := 5) (v := _) rfl (by rfl) (fun wv => by go_simp; try with_reducible rfl) ?_) | (refine WkT.step (m := 10) (k := 5) (v := _) rfl (by rfl) (by kernel_rfl) (fun wv hS => by obtain ⟨s0, s1, s2, s3, s4, s5, s6, s7, s8, s9, s10, s11, s12, s13, s14⟩ := hS; go_simp; try with_reducible rfl) ?_)
    try simp only [Act.put, List.getElem_toArray, List.getElem_cons_succ, List.getElem_cons_zero, List.setIfInBounds_toArray, List.set_cons_zero, List.set_cons_succ]
    first | (refine WkT.skip (m := 9) (k := 6) rfl (by rfl) ?_) | (refine WkT.pure (m := 9) (k := 6) (v := _) rfl (by rfl) (fun wv => by go_simp; try with_reducible rfl) ?_) | (refine WkT.step (m := 9) (k := 6) (v := _) rfl (by rfl) (by kernel_rfl) (fun wv hS => by obtain ⟨s0, s1, s2, s3, s4, s5, s6, s7, s8, s9, s10, s11, s12, s13, s14⟩ := hS; go_simp; try with_reducible rfl) ?_)
    try simp only [Act.put, List.getElem_toArray, List.getElem_cons_succ, List.getElem_cons_zero, List.setIfInBounds_toArray, List.set_cons_zero, List.set_cons_succ]
    first | (refine WkT.skip (m := 8) (k := 7) rfl (by rfl) ?_) | (refine WkT.pure (m := 8) (k := 7) (v := _) rfl (by rfl) (fun wv => by go_simp; try with_reducible rfl) ?_) | (refine WkT.step (m := 8) (k := 7) (v := _) rfl (by rfl) (by kernel_rfl) (fun wv hS => by obtain ⟨s0, s1, s2, s3, s4, s5, s6, s7, s8, s9, s10, s11, s12, s13, s14⟩ := hS; go_simp; try with_reducible rfl) ?_)
    try simp only [Act.put, List.getElem_toArray, List.getElem_cons_succ, List.getElem_cons_zero, List.setIfInBounds_toArray, List.set_cons_zero, List.set_cons_succ]
    first | (refine WkT.skip (m := 7) (k := 8) rfl (by rfl) ?_) | (refine WkT.pure (m := 7) (k := 8) (v := _) rfl (by rfl) (fun wv => by go_simp; try with_reducible rfl) ?_) | (refine WkT.step (m := 7) (k := 8) (v := _) rfl (by rfl) (by kernel_rfl) (fun wv hS => by obtain ⟨s0, s1, s2, s3, s4, s5, s6, s7, s8, s9, s10, s11, s12, s13, s14⟩ := hS; go_simp; try with_reducible rfl) ?_)
    try simp only [Act.put, List.getElem_toArray, List.getElem_cons_succ, List.getElem_cons_zero, List.setIfInBounds_toArray, List.set_cons_zero, List.set_cons_succ]
    first | (refine WkT.skip (m := 6) (k := 9) rfl (by rfl) ?_) | (refine WkT.pure (m := 6) (k := 9) (v := _) rfl (by rfl) (fun wv => by go_simp; try with_reducible rfl) ?_) | (refine WkT.step (m := 6) (k := 9) (v := _) rfl (by rfl) (by kernel_rfl) (fun wv hS => by obtain ⟨s0, s1, s2, s3, s4, s5, s6, s7, s8, s9, s10, s11, s12, s13, s14⟩ := hS; go_simp; try with_reducible rfl) ?_)
    try simp only [Act.put, List.getElem_toArray, List.getElem_cons_succ, List.getElem_cons_zero, List.setIfInBounds_toArray, List.set_cons_zero, List.set_cons_succ]
    first | (refine WkT.skip (m := 5) (k := 10) rfl (by rfl) ?_) | (refine WkT.pure (m := 5) (k := 10) (v := _) rfl (by rfl) (fun wv => by go_simp; try with_reducible rfl) ?_) | (refine WkT.step (m := 5) (k := 10) (v := _) rfl (by rfl) (by kernel_rfl) (fun wv hS => by obtain ⟨s0, s1, s2, s3, s4, s5, s6, s7, s8, s9, s10, s11, s12, s13, s14⟩ := hS; go_simp; try with_reducible rfl) ?_)
    try simp only [Act.put, List.getElem_toArray, List.getElem_cons_succ, List.getElem_cons_zero, List.setIfInBounds_toArray, List.set_cons_zero, List.set_cons_succ]
    first | (refine WkT.skip (m := 4) (k := 11) rfl (by rfl) ?_) | (refine WkT.pure (m := 4) (k := 11) (v := _) rfl (by rfl) (fun wv => by go_simp; try with_reducible rfl) ?_) | (refine WkT.step (m := 4) (k := 11) (v := _) rfl (by rfl) (by kernel_rfl) (fun wv hS => by obtain ⟨s0, s1, s2, s3, s4, s5, s6, s7, s8, s9, s10, s11, s12, s13, s14⟩ := hS; go_simp; try with_reducible rfl) ?_)
    try simp only [Act.put, List.getElem_toArray, List.getElem_cons_succ, List.getElem_cons_zero, List.setIfInBounds_toArray, List.set_cons_zero, List.set_cons_succ]
    first | (refine WkT.skip (m := 3) (k := 12) rfl (by rfl) ?_) | (refine WkT.pure (m := 3) (k := 12) (v := _) rfl (by rfl) (fun wv => by go_simp; try with_reducible rfl) ?_) | (refine WkT.step (m := 3) (k := 12) (v := _) rfl (by rfl) (by kernel_rfl) (fun wv hS => by obtain ⟨s0, s1, s2, s3, s4, s5, s6, s7, s8, s9, s10, s11, s12, s13, s14⟩ := hS; go_simp; try with_reducible rfl) ?_)
    try simp only [Act.put, List.getElem_toArray, List.getElem_cons_succ, List.getElem_cons_zero, List.setIfInBounds_toArray, List.set_cons_zero, List.set_cons_succ]
    refine WkT.call (m := 2) (k := 13) (v := .int .i64 β) _ _ rfl (by rfl) (by kernel_rfl) (fun wv hS => by obtain ⟨s0, s1, s2, s3, s4, s5, s6, s7, s8, s9, s10, s11, s12, s13, s14⟩ := hS; go_simp; first | done | exact ⟨rfl, rfl⟩ | with_reducible rfl) (fun wv hS => ?_) ?_; · obtain ⟨s0, s1, s2, s3, s4, s5, s6, s7, s8, s9, s10, s11, s12, s13, s14⟩ := hS; refine (implBetaAt x0 x1 A n C _ hs (n : Int) wv (hh6.mk s0 (Nat.le_refl _) (.inr (Nat.le_refl _))) s0.size hn).mono ?_; rintro e w' ⟨he, mm⟩; exact ⟨by rw [he, hβ.out], ⟨s0.trans mm, mm.cellAt s1, mm.cellAt s2, mm.cellAt s3, mm.cellAt s4, mm.cellAt s5, mm.cellAt s6, mm.cellAt s7, mm.cellAt s8, mm.cellAt s9, mm.cellAt s10, mm.cellAt s11, mm.cellAt s12, mm.cellAt s13, mm.cellAt s14⟩⟩
    try simp only [Act.put, List.getElem_toArray, List.getElem_cons_succ, List.getElem_cons_zero, List.setIfInBounds_toArray, List.set_cons_zero, List.set_cons_succ]
    first | (refine WkT.skip (m := 1) (k := 14) rfl (by rfl) ?_) | (refine WkT.pure (m := 1) (k := 14) (v := _) rfl (by rfl) (fun wv => by go_simp; try with_reducible rfl) ?_) | (refine WkT.step (m := 1) (k := 14) (v := _) rfl (by rfl) (by kernel_rfl) (fun wv hS => by obtain ⟨s0, s1, s2, s3, s4, s5, s6, s7, s8, s9, s10, s11, s12, s13, s14⟩ := hS; go_simp; try with_reducible rfl) ?_)
    try simp only [Act.put, List.getElem_toArray, List.getElem_cons_succ, List.getElem_cons_zero, List.setIfInBounds_toArray, List.set_cons_zero, List.set_cons_succ]
    refine WkT.call (m := 0) (k := 15) (v := .agg #[.int .i64 (q : Int), .int .i64 i, .int .i64 o, .int .i64 ev, .int .i64 mv]) _ _ rfl (by rfl) (by kernel_rfl) (fun wv hS => by obtain ⟨s0, s1, s2, s3, s4, s5, s6, s7, s8, s9, s10, s11, s12, s13, s14⟩ := hS; go_simp; first | done | exact ⟨rfl, rfl⟩ | with_reducible rfl) (fun wv hS => ?_) ?_; · obtain ⟨s0, s1, s2, s3, s4, s5, s6, s7, s8, s9, s10, s11, s12, s13, s14⟩ := hS; refine (implAuth x.key x0 β (q : Int) i o ev z wv HK.out HH.out).mono ?_; rintro e w' ⟨he, bm⟩; have mm := Mk.of_below bm; exact ⟨by rw [he, hmv.out], ⟨s0.trans mm, mm.cellAt s1, mm.cellAt s2, mm.cellAt s3, mm.cellAt s4, mm.cellAt s5, mm.cellAt s6, mm.cellAt s7, mm.cellAt s8, mm.cellAt s9, mm.cellAt s10, mm.cellAt s11, mm.cellAt s12, mm.cellAt s13, mm.cellAt s14⟩⟩
    try simp only [Act.put, List.getElem_toArray, List.getElem_cons_succ, List.getElem_cons_zero, List.setIfInBounds_toArray, List.set_cons_zero, List.set_cons_succ]
    refine WkT.done fun wE hE => ?_
    clear k0 k1 j0 j1 j2 q0 q1 q2 q3 q4 r0 r1 r2 d2
    obtain ⟨mE, k0, k1, j0, j1, j2, q0, q1, q2, q3, q4, r0, r1, r2, d2⟩ := hE
    simp only [List.drop_succ_cons, List.drop_zero]
    have hsz6 : w.heap.size + 1 + 1 + 1 + 1 < w6.heap.size := by omega
    replace fS := fun qq => (mE.frozen (b := w.heap.size + 1 + 1) (o := qq) (by omega) (.inr (Nat.zero_le _))).trans (fS qq)
    replace fH := fun qq => (mE.frozen (b := w.heap.size + 1 + 1 + 1) (o := qq) (by omega) (.inr (Nat.zero_le _))).trans (fH qq)
    replace fR := fun qq => (mE.frozen (b := w.heap.size + 1 + 1 + 1 + 1) (o := qq) (by omega) (.inr (Nat.zero_le _))).trans (fR qq)
    replace M := M.trans mE
    replace hown := own_keptR hown mE
    have zzE := mE.size
    clear k0 k1 d2
    go_wp2_with fail
    try simp only [noPan]
    replace j0 := cell_set j0 ⟨w.heap.size + 1 + 1 + 1, 0, none⟩ (.int .i64 (q : Int)) (.inl nHS)
    replace j1 := cell_set j1 ⟨w.heap.size + 1 + 1 + 1, 0, none⟩ (.int .i64 (q : Int)) (.inl nHS)
    replace j2 := cell_set j2 ⟨w.heap.size + 1 + 1 + 1, 0, none⟩ (.int .i64 (q : Int)) (.inl nHS)
    replace q0 := World.cell?_setCell_same _ _ (.int .i64 (q : Int)) q0
    replace q1 := cell_set q1 ⟨w.heap.size + 1 + 1 + 1, 0, none⟩ (.int .i64 (q : Int)) (.inr (by simp))
    replace q2 := cell_set q2 ⟨w.heap.size + 1 + 1 + 1, 0, none⟩ (.int .i64 (q : Int)) (.inr (by simp))
    replace q3 := cell_set q3 ⟨w.heap.size + 1 + 1 + 1, 0, none⟩ (.int .i64 (q : Int)) (.inr (by simp))
    replace q4 := cell_set q4 ⟨w.heap.size + 1 + 1 + 1, 0, none⟩ (.int .i64 (q : Int)) (.inr (by simp))
    replace r0 := cell_set r0 ⟨w.heap.size + 1 + 1 + 1, 0, none⟩ (.int .i64 (q : Int)) (.inl nHR)
    replace r1 := cell_set r1 ⟨w.heap.size + 1 + 1 + 1, 0, none⟩ (.int .i64 (q : Int)) (.inl nHR)
    replace r2 := cell_set r2 ⟨w.heap.size + 1 + 1 + 1, 0, none⟩ (.int .i64 (q : Int)) (.inl nHR)
    replace fS := fun qq => frozen_set (fS qq) ⟨w.heap.size + 1 + 1 + 1, 0, none⟩ (.int .i64 (q : Int))
    replace fH := fun qq => frozen_set (fH qq) ⟨w.heap.size + 1 + 1 + 1, 0, none⟩ (.int .i64 (q : Int))
    replace fR := fun qq => frozen_set (fR qq) ⟨w.heap.size + 1 + 1 + 1, 0, none⟩ (.int .i64 (q : Int))
    replace hown := own_put hown ⟨w.heap.size + 1 + 1 + 1, 0, none⟩ (.int .i64 (q : Int)) ltH
    replace M := M.put ⟨w.heap.size + 1 + 1 + 1, 0, none⟩ (.int .i64 (q : Int)) leH
    replace j0 := cell_set j0 ⟨w.heap.size + 1 + 1 + 1, 1, none⟩ (.int .i64 i) (.inl nHS)
    replace j1 := cell_set j1 ⟨w.heap.size + 1 + 1 + 1, 1, none⟩ (.int .i64 i) (.inl nHS)
    replace j2 := cell_set j2 ⟨w.heap.size + 1 + 1 + 1, 1, none⟩ (.int .i64 i) (.inl nHS)
    replace q0 := cell_set q0 ⟨w.heap.size + 1 + 1 + 1, 1, none⟩ (.int .i64 i) (.inr (by simp))
    replace q1 := World.cell?_setCell_same _ _ (.int .i64 i) q1
    replace q2 := cell_set q2 ⟨w.heap.size + 1 + 1 + 1, 1, none⟩ (.int .i64 i) (.inr (by simp))
    replace q3 := cell_set q3 ⟨w.heap.size + 1 + 1 + 1, 1, none⟩ (.int .i64 i) (.inr (by simp))
    replace q4 := cell_set q4 ⟨w.heap.size + 1 + 1 + 1, 1, none⟩ (.int .i64 i) (.inr (by simp))
    replace r0 := cell_set r0 ⟨w.heap.size + 1 + 1 + 1, 1, none⟩ (.int .i64 i) (.inl nHR)
    replace r1 := cell_set r1 ⟨w.heap.size + 1 + 1 + 1, 1, none⟩ (.int .i64 i) (.inl nHR)
    replace r2 := cell_set r2 ⟨w.heap.size + 1 + 1 + 1, 1, none⟩ (.int .i64 i) (.inl nHR)
    replace fS := fun qq => frozen_set (fS qq) ⟨w.heap.size + 1 + 1 + 1, 1, none⟩ (.int .i64 i)
    replace fH := fun qq => frozen_set (fH qq) ⟨w.heap.size + 1 + 1 + 1, 1, none⟩ (.int .i64 i)
    replace fR := fun qq => frozen_set (fR qq) ⟨w.heap.size + 1 + 1 + 1, 1, none⟩ (.int .i64 i)
    replace hown := own_put hown ⟨w.heap.size + 1 + 1 + 1, 1, none⟩ (.int .i64 i) ltH
    replace M := M.put ⟨w.heap.size + 1 + 1 + 1, 1, none⟩ (.int .i64 i) leH
    replace j0 := cell_set j0 ⟨w.heap.size + 1 + 1 + 1, 2, none⟩ (.int .i64 o) (.inl nHS)
    replace j1 := cell_set j1 ⟨w.heap.size + 1 + 1 + 1, 2, none⟩ (.int .i64 o) (.inl nHS)
    replace j2 := cell_set j2 ⟨w.heap.size + 1 + 1 + 1, 2, none⟩ (.int .i64 o) (.inl nHS)
    replace q0 := cell_set q0 ⟨w.heap.size + 1 + 1 + 1, 2, none⟩ (.int .i64 o) (.inr (by simp))
    replace q1 := cell_set q1 ⟨w.heap.size + 1 + 1 + 1, 2, none⟩ (.int .i64 o) (.inr (by simp))
    replace q2 := World.cell?_setCell_same _ _ (.int .i64 o) q2
    replace q3 := cell_set q3 ⟨w.heap.size + 1 + 1 + 1, 2, none⟩ (.int .i64 o) (.inr (by simp))
    replace q4 := cell_set q4 ⟨w.heap.size + 1 + 1 + 1, 2, none⟩ (.int .i64 o) (.inr (by simp))
    replace r0 := cell_set r0 ⟨w.heap.size + 1 + 1 + 1, 2, none⟩ (.int .i64 o) (.inl nHR)
    replace r1 := cell_set r1 ⟨w.heap.size + 1 + 1 + 1, 2, none⟩ (.int .i64 o) (.inl nHR)
    replace r2 := cell_set r2 ⟨w.heap.size + 1 + 1 + 1, 2, none⟩ (.int .i64 o) (.inl nHR)
    replace fS := fun qq => frozen_set (fS qq) ⟨w.heap.size + 1 + 1 + 1, 2, none⟩ (.int .i64 o)
    replace fH := fun qq => frozen_set (fH qq) ⟨w.heap.size + 1 + 1 + 1, 2, none⟩ (.int .i64 o)
    replace fR := fun qq => frozen_set (fR qq) ⟨w.heap.size + 1 + 1 + 1, 2, none⟩ (.int .i64 o)
    replace hown := own_put hown ⟨w.heap.size + 1 + 1 + 1, 2, none⟩ (.int .i64 o) ltH
    replace M := M.put ⟨w.heap.size + 1 + 1 + 1, 2, none⟩ (.int .i64 o) leH
    replace j0 := cell_set j0 ⟨w.heap.size + 1 + 1 + 1, 3, none⟩ (.int .i64 ev) (.inl nHS)
    replace j1 := cell_set j1 ⟨w.heap.size + 1 + 1 + 1, 3, none⟩ (.int .i64 ev) (.inl nHS)
    replace j2 := cell_set j2 ⟨w.heap.size + 1 + 1 + 1, 3, none⟩ (.int .i64 ev) (.inl nHS)
    replace q0 := cell_set q0 ⟨w.heap.size + 1 + 1 + 1, 3, none⟩ (.int .i64 ev) (.inr (by simp))
    replace q1 := cell_set q1 ⟨w.heap.size + 1 + 1 + 1, 3, none⟩ (.int .i64 ev) (.inr (by simp))
    replace q2 := cell_set q2 ⟨w.heap.size + 1 + 1 + 1, 3, none⟩ (.int .i64 ev) (.inr (by simp))
    replace q3 := World.cell?_setCell_same _ _ (.int .i64 ev) q3
    replace q4 := cell_set q4 ⟨w.heap.size + 1 + 1 + 1, 3, none⟩ (.int .i64 ev) (.inr (by simp))
    replace r0 := cell_set r0 ⟨w.heap.size + 1 + 1 + 1, 3, none⟩ (.int .i64 ev) (.inl nHR)
    replace r1 := cell_set r1 ⟨w.heap.size + 1 + 1 + 1, 3, none⟩ (.int .i64 ev) (.inl nHR)
    replace r2 := cell_set r2 ⟨w.heap.size + 1 + 1 + 1, 3, none⟩ (.int .i64 ev) (.inl nHR)
    replace fS := fun qq => frozen_set (fS qq) ⟨w.heap.size + 1 + 1 + 1, 3, none⟩ (.int .i64 ev)
    replace fH := fun qq => frozen_set (fH qq) ⟨w.heap.size + 1 + 1 + 1, 3, none⟩ (.int .i64 ev)
    replace fR := fun qq => frozen_set (fR qq) ⟨w.heap.size + 1 + 1 + 1, 3, none⟩ (.int .i64 ev)
    replace hown := own_put hown ⟨w.heap.size + 1 + 1 + 1, 3, none⟩ (.int .i64 ev) ltH
    replace M := M.put ⟨w.heap.size + 1 + 1 + 1, 3, none⟩ (.int .i64 ev) leH
    replace j0 := cell_set j0 ⟨w.heap.size + 1 + 1 + 1, 4, none⟩ (.int .i64 mv) (.inl nHS)
    replace j1 := cell_set j1 ⟨w.heap.size + 1 + 1 + 1, 4, none⟩ (.int .i64 mv) (.inl nHS)
    replace j2 := cell_set j2 ⟨w.heap.size + 1 + 1 + 1, 4, none⟩ (.int .i64 mv) (.inl nHS)
    replace q0 := cell_set q0 ⟨w.heap.size + 1 + 1 + 1, 4, none⟩ (.int .i64 mv) (.inr (by simp))
    replace q1 := cell_set q1 ⟨w.heap.size + 1 + 1 + 1, 4, none⟩ (.int .i64 mv) (.inr (by simp))
    replace q2 := cell_set q2 ⟨w.heap.size + 1 + 1 + 1, 4, none⟩ (.int .i64 mv) (.inr (by simp))
    replace q3 := cell_set q3 ⟨w.heap.size + 1 + 1 + 1, 4, none⟩ (.int .i64 mv) (.inr (by simp))
    replace q4 := World.cell?_setCell_same _ _ (.int .i64 mv) q4
    replace r0 := cell_set r0 ⟨w.heap.size + 1 + 1 + 1, 4, none⟩ (.int .i64 mv) (.inl nHR)
    replace r1 := cell_set r1 ⟨w.heap.size + 1 + 1 + 1, 4, none⟩ (.int .i64 mv) (.inl nHR)
    replace r2 := cell_set r2 ⟨w.heap.size + 1 + 1 + 1, 4, none⟩ (.int .i64 mv) (.inl nHR)
    replace fS := fun qq => frozen_set (fS qq) ⟨w.heap.size + 1 + 1 + 1, 4, none⟩ (.int .i64 mv)
    replace fH := fun qq => frozen_set (fH qq) ⟨w.heap.size + 1 + 1 + 1, 4, none⟩ (.int .i64 mv)
    replace fR := fun qq => frozen_set (fR qq) ⟨w.heap.size + 1 + 1 + 1, 4, none⟩ (.int .i64 mv)
    replace hown := own_put hown ⟨w.heap.size + 1 + 1 + 1, 4, none⟩ (.int .i64 mv) ltH
    replace M := M.put ⟨w.heap.size + 1 + 1 + 1, 4, none⟩ (.int .i64 mv) leH
    have zzF : (((((wE.setCell ⟨w.heap.size + 1 + 1 + 1, 0, none⟩ (.int .i64 (q : Int))).setCell ⟨w.heap.size + 1 + 1 + 1, 1, none⟩ (.int .i64 i)).setCell ⟨w.heap.size + 1 + 1 + 1, 2, none⟩ (.int .i64 o)).setCell ⟨w.heap.size + 1 + 1 + 1, 3, none⟩ (.int .i64 ev)).setCell ⟨w.heap.size + 1 + 1 + 1, 4, none⟩ (.int .i64 mv)).heap.size = wE.heap.size := by simp only [World.size_set]
    generalize (((((wE.setCell ⟨w.heap.size + 1 + 1 + 1, 0, none⟩ (.int .i64 (q : Int))).setCell ⟨w.heap.size + 1 + 1 + 1, 1, none⟩ (.int .i64 i)).setCell ⟨w.heap.size + 1 + 1 + 1, 2, none⟩ (.int .i64 o)).setCell ⟨w.heap.size + 1 + 1 + 1, 3, none⟩ (.int .i64 ev)).setCell ⟨w.heap.size + 1 + 1 + 1, 4, none⟩ (.int .i64 mv)) = w7 at *
    have MX := Mk.alloc w7 (Obj.cells #[Value.int .i64 (q : Int), Value.int .i64 i, Value.int .i64 o, Value.int .i64 ev, Value.int .i64 mv] 72)
    have hh8 := hasR_new (cell := THop.cell) (nc := 5) (by decide) w7 72 (⟨(q : Int), i, o, ev, mv⟩ : THop) #[Value.int .i64 (q : Int), Value.int .i64 i, Value.int .i64 o, Value.int .i64 ev, Value.int .i64 mv] (fun j hj => by match j, hj with | 0, _ => rfl | 1, _ => rfl | 2, _ => rfl | 3, _ => rfl | 4, _ => rfl)
    rw [zzF] at hh8
    have hown8 := own_keptR hown MX
    have hsz7 : w.heap.size + 1 + 1 + 1 + 1 < w7.heap.size := by omega
    have sj0 := MX.cellAt j0
    have sj1 := MX.cellAt j1
    have sj2 := MX.cellAt j2
    have sr0 := MX.cellAt r0
    have sr1 := MX.cellAt r1
    have sr2 := MX.cellAt r2
    have gS := fun q2 => (MX.frozen (b := w.heap.size + 1 + 1) (o := q2) (by omega) (.inr (Nat.zero_le _))).trans (fS q2)
    have gR := fun q2 => (MX.frozen (b := w.heap.size + 1 + 1 + 1 + 1) (o := q2) (by omega) (.inr (Nat.zero_le _))).trans (fR q2)
    have hlo7 : WW.heap.size ≤ (w7.alloc (Obj.cells #[Value.int .i64 (q : Int), Value.int .i64 i, Value.int .i64 o, Value.int .i64 ev, Value.int .i64 mv] 72)).heap.size := by rw [World.size_alloc]; omega
    go_wp2_with (at_builtin; refine wpList_appR (nc := 5) (cell := THop.cell) (by decide) oneHopC rfl (.tmp 44) (.tmp 46) 29 rfl WW.heap.size 72 i0 _ Tryz.underlying29 hi0 hz0 rfl hz1 (by rw [hz2]; decide) _ hs n rfl hown8 _ 1 1 [(⟨(q : Int), i, o, ev, mv⟩ : THop)] rfl (fun h => by cases h) hh8 (by omega) hlo7 ?_; intro v9 w9 hown9 hgr9; have hne : ∀ b2, b2 < WW.heap.size → ∀ g, (Value.slice A n C).ownBlock = some g → g ≠ b2 := fun b2 hb2 g hg => (by have := (hown8.lt g hg).1; omega); have tj0 := grown_cell sj0 hgr9 (hne _ (by omega)); have tj1 := grown_cell sj1 hgr9 (hne _ (by omega)); have tj2 := grown_cell sj2 hgr9 (hne _ (by omega)); have tr0 := grown_cell sr0 hgr9 (hne _ (by omega)); have tr1 := grown_cell sr1 hgr9 (hne _ (by omega)); have tr2 := grown_cell sr2 hgr9 (hne _ (by omega)); have tS := fun q2 => grown_frz (gS q2) (World.block_lt_of_cell? _ _ sj0) hgr9 (hne _ (by omega)); have tR := fun q2 => grown_frz (gR q2) (World.block_lt_of_cell? _ _ sr0) hgr9 (hne _ (by omega)); have M9 := (M.trans MX).appR hgr9 (fun g hg => by have := (hown8.lt g hg).1; have := M0.size; omega); obtain ⟨A2, C2, rfl, hca2, hcb2⟩ := ownsRow_sliceR2 hown9; have zz9 := hgr9.size)
    try simp only [noPan]
    try (go_wp2_with fail)
    replace j0 := cell_set tj0 ⟨w.heap.size + 1 + 1, 2, none⟩ (.slice A2 (n + 1) C2) (.inr (by simp))
    replace j1 := cell_set tj1 ⟨w.heap.size + 1 + 1, 2, none⟩ (.slice A2 (n + 1) C2) (.inr (by simp))
    replace j2 := World.cell?_setCell_same _ _ (.slice A2 (n + 1) C2) tj2
    replace r0 := cell_set tr0 ⟨w.heap.size + 1 + 1, 2, none⟩ (.slice A2 (n + 1) C2) (.inl nSR)
    replace r1 := cell_set tr1 ⟨w.heap.size + 1 + 1, 2, none⟩ (.slice A2 (n + 1) C2) (.inl nSR)
    replace r2 := cell_set tr2 ⟨w.heap.size + 1 + 1, 2, none⟩ (.slice A2 (n + 1) C2) (.inl nSR)
    replace hown := own_put hown9 ⟨w.heap.size + 1 + 1, 2, none⟩ (.slice A2 (n + 1) C2) ltS
    replace M := M9.put ⟨w.heap.size + 1 + 1, 2, none⟩ (.slice A2 (n + 1) C2) leS
    generalize (w9.setCell ⟨w.heap.size + 1 + 1, 2, none⟩ (.slice A2 (n + 1) C2)) = wX at *
    replace r0 := World.cell?_setCell_same _ _ (.int .i64 x0) r0
    replace r1 := cell_set r1 ⟨w.heap.size + 1 + 1 + 1 + 1, 0, none⟩ (.int .i64 x0) (.inr (by simp))
    replace r2 := cell_set r2 ⟨w.heap.size + 1 + 1 + 1 + 1, 0, none⟩ (.int .i64 x0) (.inr (by simp))
    replace hown := own_put hown ⟨w.heap.size + 1 + 1 + 1 + 1, 0, none⟩ (.int .i64 x0) ltR
    replace M := M.put ⟨w.heap.size + 1 + 1 + 1 + 1, 0, none⟩ (.int .i64 x0) leR
    replace r0 := cell_set r0 ⟨w.heap.size + 1 + 1 + 1 + 1, 1, none⟩ (.int .i64 x1) (.inr (by simp))
    replace r1 := World.cell?_setCell_same _ _ (.int .i64 x1) r1
    replace r2 := cell_set r2 ⟨w.heap.size + 1 + 1 + 1 + 1, 1, none⟩ (.int .i64 x1) (.inr (by simp))
    replace hown := own_put hown ⟨w.heap.size + 1 + 1 + 1 + 1, 1, none⟩ (.int .i64 x1) ltR
    replace M := M.put ⟨w.heap.size + 1 + 1 + 1 + 1, 1, none⟩ (.int .i64 x1) leR
    replace r0 := cell_set r0 ⟨w.heap.size + 1 + 1 + 1 + 1, 2, none⟩ (.slice A2 (n + 1) C2) (.inr (by simp))
    replace r1 := cell_set r1 ⟨w.heap.size + 1 + 1 + 1 + 1, 2, none⟩ (.slice A2 (n + 1) C2) (.inr (by simp))
    replace r2 := World.cell?_setCell_same _ _ (.slice A2 (n + 1) C2) r2
    replace hown := own_put hown ⟨w.heap.size + 1 + 1 + 1 + 1, 2, none⟩ (.slice A2 (n + 1) C2) ltR
    replace M := M.put ⟨w.heap.size + 1 + 1 + 1 + 1, 2, none⟩ (.slice A2 (n + 1) C2) leR
    generalize (((wX.setCell ⟨w.heap.size + 1 + 1 + 1 + 1, 0, none⟩ (.int .i64 x0)).setCell ⟨w.heap.size + 1 + 1 + 1 + 1, 1, none⟩ (.int .i64 x1)).setCell ⟨w.heap.size + 1 + 1 + 1 + 1, 2, none⟩ (.slice A2 (n + 1) C2)) = wF at *
    obtain ⟨_, _, e9, hca, hcb⟩ := ownsRow_sliceR2 hown
    cases e9
    rw [show growR zA p x0 x1 hs n (q : Int) i o true = hs ++ [⟨(q : Int), i, o, ev, mv⟩] from by unfold growR; rw [HN.out]]
    exact bodyPost_ret (v := .tuple #[.agg #[.int .i64 x0, .int .i64 x1, .slice A2 (n + 1) C2], .bool true]) (by simp [results, Tryz.results42, go_sem, r0, r1, r2]) rfl ⟨_, _, _, rfl, ⟨hca, hcb⟩, (ownsRow_ownR (by decide) hown).wide (by omega) (Nat.le_refl _), M⟩

end Go.Proofs.YtbbcpdgdihdmiaaGreatDoor
