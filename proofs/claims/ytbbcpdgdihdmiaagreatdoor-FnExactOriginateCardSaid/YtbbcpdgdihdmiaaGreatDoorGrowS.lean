
/- l13Add of the model. -/
import Derived.Test.YtbbcpdgdihdmiaaGreatDoorGrow
import Derived.Test.YtbbcpdgdihdmiaaGreatDoorWs
namespace Go.Proofs.YtbbcpdgdihdmiaaGreatDoor
open Go.ChangeShapes Go.WideShapes Go.ChangeAt Go.RowKit
set_option linter.unusedVariables false
theorem asFitsS {zs : List TAS} {n q : Nat} (hl : zs.length = n) (hq : q < n) (hz : ∀ y ∈ zs, TAS.fits y) {y : TAS} (hy : y = zs.getD q default) : (Lit.int .i64 y.key).wf = true := by
  subst hy
  have : zs.getD q default ∈ zs := by
    rw [List.getD_eq_getElem?_getD, List.getElem?_eq_getElem (by omega)]
    exact List.getElem_mem _
  exact (hz _ this).2
theorem isAsNS {n : Nat} {r : Int} (h : isAsB n r = true) : ∃ q : Nat, r = (q : Int) ∧ q < n := by
  have := of_decide_eq_true (show decide (0 ≤ r ∧ r < (n : Int)) = true from h)
  exact ⟨r.toNat, by omega, by omega⟩
theorem own_put_ne {w : World} {lo nc n : Nat} {e : TypeId} {v : Value} {xs : List Value} (h : w.ownsRow lo e nc v n xs) (p : Addr) (u : Value) (hp : ∀ g, v.ownBlock = some g → g ≠ p.block) : (w.setCell p u).ownsRow lo e nc v n xs :=
  h.kept (row := some p.block) (grownBy_setCell w p u) (by
    cases hv : v.ownBlock with
    | none => exact .inl rfl
    | some q => exact .inr (fun e => by injection e with e; exact hp q hv e))
set_option maxRecDepth 100000 in
set_option maxHeartbeats 40000000 in
theorem specAdd13 (a0 a1 : Option Addr) (n0 c0 n1 c1 B : Nat) (zA : List TAS) (p : TPolicy) (x0 x1 : Int) (a : Option Addr) (n c B' : Nat) (hs : List THop) (r i o : Int) (w : World) (hA : HasAS w B a0 n0 zA) (hB : B ≤ w.heap.size) (hn0 : n0 ≤ 1048576) (h : HasHop w B' a n hs) (hB' : B' ≤ w.heap.size) (hn : n ≤ 1048576) (hc0 : a = none → c = 0) (hnc : n ≤ c) (hz : ∀ y ∈ zA, TAS.fits y) (ht : (Lit.int .i64 x0).wf = true) (hb : (Lit.int .i64 x1).wf = true) (hr : (Lit.int .i64 r).wf = true) (hi : (Lit.int .i64 i).wf = true) (ho : (Lit.int .i64 o).wf = true) (hrA : isAsB n0 r = true) :
    Calls Tryz.prog 54 #[.agg #[.slice a0 n0 c0, .slice a1 n1 c1], .agg #[.int .i64 p.len, .int .i64 p.denied, .int .i64 p.closed, .int .i64 p.life], .agg #[.int .i64 x0, .int .i64 x1, .slice a n c], .int .i64 r, .int .i64 i, .int .i64 o] w (OutOSegment x0 x1 (growR zA p x0 x1 hs n r i o true) w) := by
  obtain ⟨i0, hi0, hz0, hz1, hz2⟩ := info_parts infoRHop
  obtain ⟨q, rfl, hq⟩ := isAsNS hrA
  have M0 := (((Mk.alloc w (Obj.cells #[Value.slice a0 n0 c0, Value.slice a1 n1 c1] 37)).new (Obj.cells #[Value.int .i64 p.len, Value.int .i64 p.denied, Value.int .i64 p.closed, Value.int .i64 p.life] 39)).new (Obj.cells #[Value.int .i64 x0, Value.int .i64 x1, Value.slice a n c] 31)).new (Obj.cells #[Value.int .i64 0, Value.int .i64 0, Value.slice none 0 0] 31)
  have k0 : ((((w.alloc (Obj.cells #[Value.slice a0 n0 c0, Value.slice a1 n1 c1] 37)).alloc (Obj.cells #[Value.int .i64 p.len, Value.int .i64 p.denied, Value.int .i64 p.closed, Value.int .i64 p.life] 39)).alloc (Obj.cells #[Value.int .i64 x0, Value.int .i64 x1, Value.slice a n c] 31)).alloc (Obj.cells #[Value.int .i64 0, Value.int .i64 0, Value.slice none 0 0] 31)).cell? ⟨w.heap.size, 0, none⟩ = some (.slice a0 n0 c0) := by simp [go_sem]
  have k1 : ((((w.alloc (Obj.cells #[Value.slice a0 n0 c0, Value.slice a1 n1 c1] 37)).alloc (Obj.cells #[Value.int .i64 p.len, Value.int .i64 p.denied, Value.int .i64 p.closed, Value.int .i64 p.life] 39)).alloc (Obj.cells #[Value.int .i64 x0, Value.int .i64 x1, Value.slice a n c] 31)).alloc (Obj.cells #[Value.int .i64 0, Value.int .i64 0, Value.slice none 0 0] 31)).cell? ⟨w.heap.size, 1, none⟩ = some (.slice a1 n1 c1) := by simp [go_sem]
  have p0 : ((((w.alloc (Obj.cells #[Value.slice a0 n0 c0, Value.slice a1 n1 c1] 37)).alloc (Obj.cells #[Value.int .i64 p.len, Value.int .i64 p.denied, Value.int .i64 p.closed, Value.int .i64 p.life] 39)).alloc (Obj.cells #[Value.int .i64 x0, Value.int .i64 x1, Value.slice a n c] 31)).alloc (Obj.cells #[Value.int .i64 0, Value.int .i64 0, Value.slice none 0 0] 31)).cell? ⟨w.heap.size + 1, 0, none⟩ = some (.int .i64 p.len) := by simp [go_sem]
  have p1 : ((((w.alloc (Obj.cells #[Value.slice a0 n0 c0, Value.slice a1 n1 c1] 37)).alloc (Obj.cells #[Value.int .i64 p.len, Value.int .i64 p.denied, Value.int .i64 p.closed, Value.int .i64 p.life] 39)).alloc (Obj.cells #[Value.int .i64 x0, Value.int .i64 x1, Value.slice a n c] 31)).alloc (Obj.cells #[Value.int .i64 0, Value.int .i64 0, Value.slice none 0 0] 31)).cell? ⟨w.heap.size + 1, 1, none⟩ = some (.int .i64 p.denied) := by simp [go_sem]
  have p2 : ((((w.alloc (Obj.cells #[Value.slice a0 n0 c0, Value.slice a1 n1 c1] 37)).alloc (Obj.cells #[Value.int .i64 p.len, Value.int .i64 p.denied, Value.int .i64 p.closed, Value.int .i64 p.life] 39)).alloc (Obj.cells #[Value.int .i64 x0, Value.int .i64 x1, Value.slice a n c] 31)).alloc (Obj.cells #[Value.int .i64 0, Value.int .i64 0, Value.slice none 0 0] 31)).cell? ⟨w.heap.size + 1, 2, none⟩ = some (.int .i64 p.closed) := by simp [go_sem]
  have p3 : ((((w.alloc (Obj.cells #[Value.slice a0 n0 c0, Value.slice a1 n1 c1] 37)).alloc (Obj.cells #[Value.int .i64 p.len, Value.int .i64 p.denied, Value.int .i64 p.closed, Value.int .i64 p.life] 39)).alloc (Obj.cells #[Value.int .i64 x0, Value.int .i64 x1, Value.slice a n c] 31)).alloc (Obj.cells #[Value.int .i64 0, Value.int .i64 0, Value.slice none 0 0] 31)).cell? ⟨w.heap.size + 1, 3, none⟩ = some (.int .i64 p.life) := by simp [go_sem]
  have j0 : ((((w.alloc (Obj.cells #[Value.slice a0 n0 c0, Value.slice a1 n1 c1] 37)).alloc (Obj.cells #[Value.int .i64 p.len, Value.int .i64 p.denied, Value.int .i64 p.closed, Value.int .i64 p.life] 39)).alloc (Obj.cells #[Value.int .i64 x0, Value.int .i64 x1, Value.slice a n c] 31)).alloc (Obj.cells #[Value.int .i64 0, Value.int .i64 0, Value.slice none 0 0] 31)).cell? ⟨w.heap.size + 1 + 1, 0, none⟩ = some (.int .i64 x0) := by simp [go_sem]
  have j1 : ((((w.alloc (Obj.cells #[Value.slice a0 n0 c0, Value.slice a1 n1 c1] 37)).alloc (Obj.cells #[Value.int .i64 p.len, Value.int .i64 p.denied, Value.int .i64 p.closed, Value.int .i64 p.life] 39)).alloc (Obj.cells #[Value.int .i64 x0, Value.int .i64 x1, Value.slice a n c] 31)).alloc (Obj.cells #[Value.int .i64 0, Value.int .i64 0, Value.slice none 0 0] 31)).cell? ⟨w.heap.size + 1 + 1, 1, none⟩ = some (.int .i64 x1) := by simp [go_sem]
  have j2 : ((((w.alloc (Obj.cells #[Value.slice a0 n0 c0, Value.slice a1 n1 c1] 37)).alloc (Obj.cells #[Value.int .i64 p.len, Value.int .i64 p.denied, Value.int .i64 p.closed, Value.int .i64 p.life] 39)).alloc (Obj.cells #[Value.int .i64 x0, Value.int .i64 x1, Value.slice a n c] 31)).alloc (Obj.cells #[Value.int .i64 0, Value.int .i64 0, Value.slice none 0 0] 31)).cell? ⟨w.heap.size + 1 + 1, 2, none⟩ = some (.slice a n c) := by simp [go_sem]
  have r0 : ((((w.alloc (Obj.cells #[Value.slice a0 n0 c0, Value.slice a1 n1 c1] 37)).alloc (Obj.cells #[Value.int .i64 p.len, Value.int .i64 p.denied, Value.int .i64 p.closed, Value.int .i64 p.life] 39)).alloc (Obj.cells #[Value.int .i64 x0, Value.int .i64 x1, Value.slice a n c] 31)).alloc (Obj.cells #[Value.int .i64 0, Value.int .i64 0, Value.slice none 0 0] 31)).cell? ⟨w.heap.size + 1 + 1 + 1, 0, none⟩ = some (.int .i64 0) := by simp [go_sem]
  have r1 : ((((w.alloc (Obj.cells #[Value.slice a0 n0 c0, Value.slice a1 n1 c1] 37)).alloc (Obj.cells #[Value.int .i64 p.len, Value.int .i64 p.denied, Value.int .i64 p.closed, Value.int .i64 p.life] 39)).alloc (Obj.cells #[Value.int .i64 x0, Value.int .i64 x1, Value.slice a n c] 31)).alloc (Obj.cells #[Value.int .i64 0, Value.int .i64 0, Value.slice none 0 0] 31)).cell? ⟨w.heap.size + 1 + 1 + 1, 1, none⟩ = some (.int .i64 0) := by simp [go_sem]
  have r2 : ((((w.alloc (Obj.cells #[Value.slice a0 n0 c0, Value.slice a1 n1 c1] 37)).alloc (Obj.cells #[Value.int .i64 p.len, Value.int .i64 p.denied, Value.int .i64 p.closed, Value.int .i64 p.life] 39)).alloc (Obj.cells #[Value.int .i64 x0, Value.int .i64 x1, Value.slice a n c] 31)).alloc (Obj.cells #[Value.int .i64 0, Value.int .i64 0, Value.slice none 0 0] 31)).cell? ⟨w.heap.size + 1 + 1 + 1, 2, none⟩ = some (.slice none 0 0) := by simp [go_sem]
  have fR : ∀ q, ((((w.alloc (Obj.cells #[Value.slice a0 n0 c0, Value.slice a1 n1 c1] 37)).alloc (Obj.cells #[Value.int .i64 p.len, Value.int .i64 p.denied, Value.int .i64 p.closed, Value.int .i64 p.life] 39)).alloc (Obj.cells #[Value.int .i64 x0, Value.int .i64 x1, Value.slice a n c] 31)).alloc (Obj.cells #[Value.int .i64 0, Value.int .i64 0, Value.slice none 0 0] 31)).frozen? ⟨w.heap.size + 1 + 1 + 1, q, none⟩ = false := fun q => by simp [go_sem]
  have hs4 : ((((w.alloc (Obj.cells #[Value.slice a0 n0 c0, Value.slice a1 n1 c1] 37)).alloc (Obj.cells #[Value.int .i64 p.len, Value.int .i64 p.denied, Value.int .i64 p.closed, Value.int .i64 p.life] 39)).alloc (Obj.cells #[Value.int .i64 x0, Value.int .i64 x1, Value.slice a n c] 31)).alloc (Obj.cells #[Value.int .i64 0, Value.int .i64 0, Value.slice none 0 0] 31)).heap.size = w.heap.size + 1 + 1 + 1 + 1 := by simp only [World.size_alloc]
  have HZ := Lib.hid hz
  clear hz
  have hlz := h.1
  go_enter Tryz.func54, Tryz.ntmps54
  go_wp2_with fail
  generalize ((((w.alloc (Obj.cells #[Value.slice a0 n0 c0, Value.slice a1 n1 c1] 37)).alloc (Obj.cells #[Value.int .i64 p.len, Value.int .i64 p.denied, Value.int .i64 p.closed, Value.int .i64 p.life] 39)).alloc (Obj.cells #[Value.int .i64 x0, Value.int .i64 x1, Value.slice a n c] 31)).alloc (Obj.cells #[Value.int .i64 0, Value.int .i64 0, Value.slice none 0 0] 31)) = WW at *
  refine (specL9Copy x0 x1 a n c B' hs _ (h.mk M0 hB' (.inr (Nat.le_refl _))) (Nat.le_trans hB' M0.size) hn hc0 hnc).mono ?_
  rintro e w2 ⟨A, N, C, rfl, hown, m2⟩
  have hNn := ownsRow_lenR (by decide) hown
  obtain rfl : n = N := hlz.symm.trans hNn
  clear hNn
  replace k0 := m2.cellAt k0
  replace k1 := m2.cellAt k1
  replace p0 := m2.cellAt p0
  replace p1 := m2.cellAt p1
  replace p2 := m2.cellAt p2
  replace p3 := m2.cellAt p3
  replace j0 := m2.cellAt j0
  replace j1 := m2.cellAt j1
  replace j2 := m2.cellAt j2
  replace r0 := m2.cellAt r0
  replace r1 := m2.cellAt r1
  replace r2 := m2.cellAt r2
  replace fR := fun q => (m2.frozen (b := w.heap.size + 1 + 1 + 1) (o := q) (by omega) (.inr (Nat.zero_le _))).trans (fR q)
  have M := M0.trans m2
  have zz2 := m2.size
  have MX := Mk.alloc w2 (Obj.cells #[Value.int .i64 x0, Value.int .i64 x1, Value.slice A n C] 31)
  have u0 : (w2.alloc (Obj.cells #[Value.int .i64 x0, Value.int .i64 x1, Value.slice A n C] 31)).cell? ⟨w2.heap.size, 0, none⟩ = some (.int .i64 x0) := by simp [go_sem]
  have u1 : (w2.alloc (Obj.cells #[Value.int .i64 x0, Value.int .i64 x1, Value.slice A n C] 31)).cell? ⟨w2.heap.size, 1, none⟩ = some (.int .i64 x1) := by simp [go_sem]
  have u2 : (w2.alloc (Obj.cells #[Value.int .i64 x0, Value.int .i64 x1, Value.slice A n C] 31)).cell? ⟨w2.heap.size, 2, none⟩ = some (.slice A n C) := by simp [go_sem]
  have fX : ∀ q, (w2.alloc (Obj.cells #[Value.int .i64 x0, Value.int .i64 x1, Value.slice A n C] 31)).frozen? ⟨w2.heap.size, q, none⟩ = false := fun q => by simp [go_sem]
  replace k0 := MX.cellAt k0
  replace k1 := MX.cellAt k1
  replace p0 := MX.cellAt p0
  replace p1 := MX.cellAt p1
  replace p2 := MX.cellAt p2
  replace p3 := MX.cellAt p3
  replace j0 := MX.cellAt j0
  replace j1 := MX.cellAt j1
  replace j2 := MX.cellAt j2
  replace r0 := MX.cellAt r0
  replace r1 := MX.cellAt r1
  replace r2 := MX.cellAt r2
  replace fR := fun q => (MX.frozen (b := w.heap.size + 1 + 1 + 1) (o := q) (by omega) (.inr (Nat.zero_le _))).trans (fR q)
  replace M := M.trans MX
  have HO2 := Lib.hid hown
  replace hown := own_keptR hown MX
  have hzx : (w2.alloc (Obj.cells #[Value.int .i64 x0, Value.int .i64 x1, Value.slice A n C] 31)).heap.size = w2.heap.size + 1 := by rw [World.size_alloc]
  obtain ⟨gX, hgX⟩ : ∃ g, Hid (g = w2.heap.size) := ⟨_, Lib.hid rfl⟩
  have hg1 : w.heap.size + 1 + 1 + 1 + 1 ≤ gX := by have := hgX.out; omega
  go_wp2_with fail
  skip
  refine (specExpFor p x0 _).mono ?_
  rintro e w3 ⟨rfl, m3⟩
  replace k0 := m3.cellAt k0
  replace k1 := m3.cellAt k1
  replace p0 := m3.cellAt p0
  replace p1 := m3.cellAt p1
  replace p2 := m3.cellAt p2
  replace p3 := m3.cellAt p3
  replace j0 := m3.cellAt j0
  replace j1 := m3.cellAt j1
  replace j2 := m3.cellAt j2
  replace r0 := m3.cellAt r0
  replace r1 := m3.cellAt r1
  replace r2 := m3.cellAt r2
  replace u0 := m3.cellAt u0
  replace u1 := m3.cellAt u1
  replace u2 := m3.cellAt u2
  have hXw : w2.heap.size < (w2.alloc (Obj.cells #[Value.int .i64 x0, Value.int .i64 x1, Value.slice A n C] 31)).heap.size := by rw [hzx]; omega
  replace fR := fun q => (m3.frozen (b := w.heap.size + 1 + 1 + 1) (o := q) (by omega) (.inr (Nat.zero_le _))).trans (fR q)
  replace fX := fun q => (m3.frozen (b := w2.heap.size) (o := q) hXw (.inr (Nat.zero_le _))).trans (fX q)
  replace M := M.trans m3
  replace hown := own_keptR hown m3
  have zz3 := m3.size
  obtain ⟨ev, hev⟩ : ∃ ev, Hid (ev = exV p x0) := ⟨_, Lib.hid rfl⟩
  have HEF := Lib.hid (exV_fits p x0)
  rw [show minV (wrap64 (x0 + p.life)) 1000000 = ev from hev.out.symm]
  rw [← hev.out] at HEF
  have MY := Mk.alloc w3 (Obj.cells #[Value.int .i64 (q : Int), Value.int .i64 i, Value.int .i64 o, Value.int .i64 ev, Value.int .i64 0] 72)
  have q0 : (w3.alloc (Obj.cells #[Value.int .i64 (q : Int), Value.int .i64 i, Value.int .i64 o, Value.int .i64 ev, Value.int .i64 0] 72)).cell? ⟨w3.heap.size, 0, none⟩ = some (.int .i64 (q : Int)) := by simp [go_sem]
  have q1 : (w3.alloc (Obj.cells #[Value.int .i64 (q : Int), Value.int .i64 i, Value.int .i64 o, Value.int .i64 ev, Value.int .i64 0] 72)).cell? ⟨w3.heap.size, 1, none⟩ = some (.int .i64 i) := by simp [go_sem]
  have q2 : (w3.alloc (Obj.cells #[Value.int .i64 (q : Int), Value.int .i64 i, Value.int .i64 o, Value.int .i64 ev, Value.int .i64 0] 72)).cell? ⟨w3.heap.size, 2, none⟩ = some (.int .i64 o) := by simp [go_sem]
  have q3 : (w3.alloc (Obj.cells #[Value.int .i64 (q : Int), Value.int .i64 i, Value.int .i64 o, Value.int .i64 ev, Value.int .i64 0] 72)).cell? ⟨w3.heap.size, 3, none⟩ = some (.int .i64 ev) := by simp [go_sem]
  have q4 : (w3.alloc (Obj.cells #[Value.int .i64 (q : Int), Value.int .i64 i, Value.int .i64 o, Value.int .i64 ev, Value.int .i64 0] 72)).cell? ⟨w3.heap.size, 4, none⟩ = some (.int .i64 0) := by simp [go_sem]
  replace k0 := MY.cellAt k0
  replace k1 := MY.cellAt k1
  replace p0 := MY.cellAt p0
  replace p1 := MY.cellAt p1
  replace p2 := MY.cellAt p2
  replace p3 := MY.cellAt p3
  replace j0 := MY.cellAt j0
  replace j1 := MY.cellAt j1
  replace j2 := MY.cellAt j2
  replace r0 := MY.cellAt r0
  replace r1 := MY.cellAt r1
  replace r2 := MY.cellAt r2
  replace u0 := MY.cellAt u0
  replace u1 := MY.cellAt u1
  replace u2 := MY.cellAt u2
  have hsR : w.heap.size + 1 + 1 + 1 < w3.heap.size := by omega
  have hsX : w2.heap.size < w3.heap.size := by omega
  replace fR := fun q => (MY.frozen (b := w.heap.size + 1 + 1 + 1) (o := q) hsR (.inr (Nat.zero_le _))).trans (fR q)
  replace fX := fun q => (MY.frozen (b := w2.heap.size) (o := q) hsX (.inr (Nat.zero_le _))).trans (fX q)
  replace M := M.trans MY
  replace hown := own_keptR hown MY
  obtain ⟨bA, oA, x, rfl, hbA, hx, d0, d1, d2⟩ := HasAS.at _ _ _ _ _ _ (hA.mk M hB (.inr (Nat.le_refl _))) hq
  have hbr := World.block_lt_of_cell? _ _ d2
  simp only at hbr
  have i1 : (0 : Int) ≤ (q : Int) := by omega
  have i2 : (q : Int) < (n0 : Int) := by omega
  have HK := Lib.hid (asFitsS hA.1 hq HZ.out hx.out)
  obtain ⟨β, hβ⟩ : ∃ β, Hid (β = betaV x1 hs n (n : Int)) := ⟨_, Lib.hid rfl⟩
  have HBF := Lib.hid (show (Lit.int .i64 β).wf = true by rw [hβ.out, betaV_bUp (Nat.le_refl _)]; exact bUp_fits hb hs n)
  have HH := Lib.hid (hopL_fits ht HBF.out (x := ⟨(q : Int), i, o, ev, 0⟩) ⟨hr, hi, ho, HEF.out, (show (Lit.int .i64 0).wf = true by decide)⟩)
  obtain ⟨mv, hmv⟩ : ∃ mv, Hid (mv = macV x.key (hopL x0 β (q : Int) i o ev)) := ⟨_, Lib.hid rfl⟩
  have HN := Lib.hid (show nwHop zA p x0 x1 hs n (q : Int) i o = ⟨(q : Int), i, o, ev, mv⟩ by unfold nwHop nwMac; rw [Int.toNat_natCast, ← hx.out, ← hev.out, ← hβ.out, ← hmv.out])
  have HGR := Lib.hid (show growR zA p x0 x1 hs n (q : Int) i o true = hs ++ [⟨(q : Int), i, o, ev, mv⟩] from by unfold growR; rw [HN.out])
  have hs34 : w3.heap.size < (w3.alloc (Obj.cells #[Value.int .i64 (q : Int), Value.int .i64 i, Value.int .i64 o, Value.int .i64 ev, Value.int .i64 0] 72)).heap.size := by rw [World.size_alloc]; omega
  go_wp2_with fail
  obtain ⟨gH, hgH⟩ : ∃ g, Hid (g = w3.heap.size) := ⟨_, Lib.hid rfl⟩
  generalize (w3.alloc (Obj.cells #[Value.int .i64 (q : Int), Value.int .i64 i, Value.int .i64 o, Value.int .i64 ev, Value.int .i64 0] 72)) = w4 at *
  have HM := Lib.hid M
  have HO := Lib.hid hown
  have HFX := Lib.hid fX
  have HFR := Lib.hid fR
  have zz4 := M.size
  clear M hown fX fR
  refine wp_region_wks (fun w' => Mk0 w4 w' ∧ w'.cell? ⟨w.heap.size, 0, none⟩ = some (.slice (some ⟨bA, oA, none⟩) n0 c0) ∧ w'.cell? ⟨w.heap.size + 1 + 1, 0, none⟩ = some (.int .i64 x0) ∧ w'.cell? ⟨w.heap.size + 1 + 1, 1, none⟩ = some (.int .i64 x1) ∧ w'.cell? ⟨w.heap.size + 1 + 1, 2, none⟩ = some (.slice a n c) ∧ w'.cell? ⟨w.heap.size + 1 + 1 + 1, 0, none⟩ = some (.int .i64 0) ∧ w'.cell? ⟨w.heap.size + 1 + 1 + 1, 1, none⟩ = some (.int .i64 0) ∧ w'.cell? ⟨w.heap.size + 1 + 1 + 1, 2, none⟩ = some (.slice none 0 0) ∧ w'.cell? ⟨w2.heap.size, 0, none⟩ = some (.int .i64 x0) ∧ w'.cell? ⟨w2.heap.size, 1, none⟩ = some (.int .i64 x1) ∧ w'.cell? ⟨w2.heap.size, 2, none⟩ = some (.slice A n C) ∧ w'.cell? ⟨w3.heap.size, 0, none⟩ = some (.int .i64 (q : Int)) ∧ w'.cell? ⟨w3.heap.size, 1, none⟩ = some (.int .i64 i) ∧ w'.cell? ⟨w3.heap.size, 2, none⟩ = some (.int .i64 o) ∧ w'.cell? ⟨w3.heap.size, 3, none⟩ = some (.int .i64 ev) ∧ w'.cell? ⟨w3.heap.size, 4, none⟩ = some (.int .i64 0) ∧ w'.cell? ⟨bA, oA + q * 3 + 2, none⟩ = some (.int .i64 x.key)) 17 18 (by kernel_rfl) (by kernel_rfl) (by kernel_rfl) (by decide) (by decide) (⟨Mk.drew1 _, k0, j0, j1, j2, r0, r1, r2, u0, u1, u2, q0, q1, q2, q3, q4, d2⟩) ?_
  change WkS _ _ _ _ _ _ 17 0 _
  first | (refine WkS.skip (m := 16) (k := 0) rfl (by rfl) ?_) | (refine WkS.pure (m := 16) (k := 0) (v := _) rfl (by rfl) (fun wv => by go_simp; try with_reducible rfl) ?_) | (refine WkS.step (m := 16) (k := 0) (v := _) rfl (by rfl) (by kernel_rfl) (fun wv hS => by obtain ⟨s0, s1, s2, s3, s4, s5, s6, s7, s8, s9, s10, s11, s12, s13, s14, s15, s16⟩ := hS; go_simp; try with_reducible rfl) ?_)
  try simp only [Act.put, List.getElem_toArray, List.getElem_cons_zero, List.setIfInBounds_toArray, List.set_cons_zero, List.set_cons_succ]
  first | (refine WkS.skip (m := 15) (k := 1) rfl (by rfl) ?_) | (refine WkS.pure (m := 15) (k := 1) (v := _) rfl (by rfl) (fun wv => by go_simp; try with_reducible rfl) ?_) | (refine WkS.step (m := 15) (k := 1) (v := _) rfl (by rfl) (by kernel_rfl) (fun wv hS => by obtain ⟨s0, s1, s2, s3, s4, s5, s6, s7, s8, s9, s10, s11, s12, s13, s14, s15, s16⟩ := hS; go_simp; try with_reducible rfl) ?_)
  try simp only [Act.put, List.getElem_toArray, List.getElem_cons_succ, List.getElem_cons_zero, List.setIfInBounds_toArray, List.set_cons_zero, List.set_cons_succ]
  first | (refine WkS.skip (m := 14) (k := 2) rfl (by rfl) ?_) | (refine WkS.pure (m := 14) (k := 2) (v := _) rfl (by rfl) (fun wv => by go_simp; try with_reducible rfl) ?_) | (refine WkS.step (m := 14) (k := 2) (v := _) rfl (by rfl) (by kernel_rfl) (fun wv hS => by obtain ⟨s0, s1, s2, s3, s4, s5, s6, s7, s8, s9, s10, s11, s12, s13, s14, s15, s16⟩ := hS; go_simp; try with_reducible rfl) ?_)
  try simp only [Act.put, List.getElem_toArray, List.getElem_cons_succ, List.getElem_cons_zero, List.setIfInBounds_toArray, List.set_cons_zero, List.set_cons_succ]
  first | (refine WkS.skip (m := 13) (k := 3) rfl (by rfl) ?_) | (refine WkS.pure (m := 13) (k := 3) (v := _) rfl (by rfl) (fun wv => by go_simp; try with_reducible rfl) ?_) | (refine WkS.step (m := 13) (k := 3) (v := _) rfl (by rfl) (by kernel_rfl) (fun wv hS => by obtain ⟨s0, s1, s2, s3, s4, s5, s6, s7, s8, s9, s10, s11, s12, s13, s14, s15, s16⟩ := hS; go_simp; try with_reducible rfl) ?_)
  try simp only [Act.put, List.getElem_toArray, List.getElem_cons_succ, List.getElem_cons_zero, List.setIfInBounds_toArray, List.set_cons_zero, List.set_cons_succ]
  first | (refine WkS.skip (m := 12) (k := 4) rfl (by rfl) ?_) | (refine WkS.pure (m := 12) (k := 4) (v := _) rfl (by rfl) (fun wv => by go_simp; try with_reducible rfl) ?_) | (refine WkS.step (m := 12) (k := 4) (v := _) rfl (by rfl) (by kernel_rfl) (fun wv hS => by obtain ⟨s0, s1, s2, s3, s4, s5, s6, s7, s8, s9, s10, s11, s12, s13, s14, s15, s16⟩ := hS; go_simp; try with_reducible rfl) ?_)
  try simp only [Act.put, List.getElem_toArray, List.getElem_cons_succ, List.getElem_cons_zero, List.setIfInBounds_toArray, List.set_cons_zero, List.set_cons_succ]
  first | (refine WkS.skip (m := 11) (k := 5) rfl (by rfl) ?_) | (refine WkS.pure (m := 11) (k := 5) (v := _) rfl (by rfl) (fun wv => by go_simp; try with_reducible rfl) ?_) | (refine WkS.step (m := 11) (k := 5) (v := _) rfl (by rfl) (by kernel_rfl) (fun wv hS => by obtain ⟨s0, s1, s2, s3, s4, s5, s6, s7, s8, s9, s10, s11, s12, s13, s14, s15, s16⟩ := hS; go_simp; try with_reducible rfl) ?_)
  try simp only [Act.put, List.getElem_toArray, List.getElem_cons_succ, List.getElem_cons_zero, List.setIfInBounds_toArray, List.set_cons_zero, List.set_cons_succ]
  first | (refine WkS.skip (m := 10) (k := 6) rfl (by rfl) ?_) | (refine WkS.pure (m := 10) (k := 6) (v := _) rfl (by rfl) (fun wv => by go_simp; try with_reducible rfl) ?_) | (refine WkS.step (m := 10) (k := 6) (v := _) rfl (by rfl) (by kernel_rfl) (fun wv hS => by obtain ⟨s0, s1, s2, s3, s4, s5, s6, s7, s8, s9, s10, s11, s12, s13, s14, s15, s16⟩ := hS; go_simp; try with_reducible rfl) ?_)
  try simp only [Act.put, List.getElem_toArray, List.getElem_cons_succ, List.getElem_cons_zero, List.setIfInBounds_toArray, List.set_cons_zero, List.set_cons_succ]
  first | (refine WkS.skip (m := 9) (k := 7) rfl (by rfl) ?_) | (refine WkS.pure (m := 9) (k := 7) (v := _) rfl (by rfl) (fun wv => by go_simp; try with_reducible rfl) ?_) | (refine WkS.step (m := 9) (k := 7) (v := _) rfl (by rfl) (by kernel_rfl) (fun wv hS => by obtain ⟨s0, s1, s2, s3, s4, s5, s6, s7, s8, s9, s10, s11, s12, s13, s14, s15, s16⟩ := hS; go_simp; try with_reducible rfl) ?_)
  try simp only [Act.put, List.getElem_toArray, List.getElem_cons_succ, List.getElem_cons_zero, List.setIfInBounds_toArray, List.set_cons_zero, List.set_cons_succ]
  first | (refine WkS.skip (m := 8) (k := 8) rfl (by rfl) ?_) | (refine WkS.pure (m := 8) (k := 8) (v := _) rfl (by rfl) (fun wv => by go_simp; try with_reducible rfl) ?_) | (refine WkS.step (m := 8) (k := 8) (v := _) rfl (by rfl) (by kernel_rfl) (fun wv hS => by obtain ⟨s0, s1, s2, s3, s4, s5, s6, s7, s8, s9, s10, s11, s12, s13, s14, s15, s16⟩ := hS; go_simp; try with_reducible rfl) ?_)
  try simp only [Act.put, List.getElem_toArray, List.getElem_cons_succ, List.getElem_cons_zero, List.setIfInBounds_toArray, List.set_cons_zero, List.set_cons_succ]
  first | (refine WkS.skip (m := 7) (k := 9) rfl (by rfl) ?_) | (refine WkS.pure (m := 7) (k := 9) (v := _) rfl (by rfl) (fun wv => by go_simp; try with_reducible rfl) ?_) | (refine WkS.step (m := 7) (k := 9) (v := _) rfl (by rfl) (by kernel_rfl) (fun wv hS => by obtain ⟨s0, s1, s2, s3, s4, s5, s6, s7, s8, s9, s10, s11, s12, s13, s14, s15, s16⟩ := hS; go_simp; try with_reducible rfl) ?_)
  try simp only [Act.put, List.getElem_toArray, List.getElem_cons_succ, List.getElem_cons_zero, List.setIfInBounds_toArray, List.set_cons_zero, List.set_cons_succ]
  first | (refine WkS.skip (m := 6) (k := 10) rfl (by rfl) ?_) | (refine WkS.pure (m := 6) (k := 10) (v := _) rfl (by rfl) (fun wv => by go_simp; try with_reducible rfl) ?_) | (refine WkS.step (m := 6) (k := 10) (v := _) rfl (by rfl) (by kernel_rfl) (fun wv hS => by obtain ⟨s0, s1, s2, s3, s4, s5, s6, s7, s8, s9, s10, s11, s12, s13, s14, s15, s16⟩ := hS; go_simp; try with_reducible rfl) ?_)
  try simp only [Act.put, List.getElem_toArray, List.getElem_cons_succ, List.getElem_cons_zero, List.setIfInBounds_toArray, List.set_cons_zero, List.set_cons_succ]
  first | (refine WkS.skip (m := 5) (k := 11) rfl (by rfl) ?_) | (refine WkS.pure (m := 5) (k := 11) (v := _) rfl (by rfl) (fun wv => by go_simp; try with_reducible rfl) ?_) | (refine WkS.step (m := 5) (k := 11) (v := _) rfl (by rfl) (by kernel_rfl) (fun wv hS => by obtain ⟨s0, s1, s2, s3, s4, s5, s6, s7, s8, s9, s10, s11, s12, s13, s14, s15, s16⟩ := hS; go_simp; try with_reducible rfl) ?_)
  try simp only [Act.put, List.getElem_toArray, List.getElem_cons_succ, List.getElem_cons_zero, List.setIfInBounds_toArray, List.set_cons_zero, List.set_cons_succ]
  first | (refine WkS.skip (m := 4) (k := 12) rfl (by rfl) ?_) | (refine WkS.pure (m := 4) (k := 12) (v := _) rfl (by rfl) (fun wv => by go_simp; try with_reducible rfl) ?_) | (refine WkS.step (m := 4) (k := 12) (v := _) rfl (by rfl) (by kernel_rfl) (fun wv hS => by obtain ⟨s0, s1, s2, s3, s4, s5, s6, s7, s8, s9, s10, s11, s12, s13, s14, s15, s16⟩ := hS; go_simp; try with_reducible rfl) ?_)
  try simp only [Act.put, List.getElem_toArray, List.getElem_cons_succ, List.getElem_cons_zero, List.setIfInBounds_toArray, List.set_cons_zero, List.set_cons_succ]
  first | (refine WkS.skip (m := 3) (k := 13) rfl (by rfl) ?_) | (refine WkS.pure (m := 3) (k := 13) (v := _) rfl (by rfl) (fun wv => by go_simp; try with_reducible rfl) ?_) | (refine WkS.step (m := 3) (k := 13) (v := _) rfl (by rfl) (by kernel_rfl) (fun wv hS => by obtain ⟨s0, s1, s2, s3, s4, s5, s6, s7, s8, s9, s10, s11, s12, s13, s14, s15, s16⟩ := hS; go_simp; try with_reducible rfl) ?_)
  try simp only [Act.put, List.getElem_toArray, List.getElem_cons_succ, List.getElem_cons_zero, List.setIfInBounds_toArray, List.set_cons_zero, List.set_cons_succ]
  refine WkS.call (m := 2) (k := 14) (v := .int .i64 β) _ _ rfl (by rfl) (by kernel_rfl) (fun wv hS => by obtain ⟨s0, s1, s2, s3, s4, s5, s6, s7, s8, s9, s10, s11, s12, s13, s14, s15, s16⟩ := hS; go_simp; first | done | exact ⟨rfl, rfl⟩ | with_reducible rfl) (fun wv hS => ?_) ?_; · obtain ⟨s0, s1, s2, s3, s4, s5, s6, s7, s8, s9, s10, s11, s12, s13, s14, s15, s16⟩ := hS; refine (specBetaAt x0 x1 a n c B' hs (n : Int) wv (h.mk (HM.out.trans s0) hB' (.inr (Nat.le_refl _))) (Nat.le_trans hB' (HM.out.trans s0).size) hn).mono ?_; rintro e w' ⟨he, mm⟩; exact ⟨by rw [he, hβ.out], ⟨s0.trans mm, mm.cellAt s1, mm.cellAt s2, mm.cellAt s3, mm.cellAt s4, mm.cellAt s5, mm.cellAt s6, mm.cellAt s7, mm.cellAt s8, mm.cellAt s9, mm.cellAt s10, mm.cellAt s11, mm.cellAt s12, mm.cellAt s13, mm.cellAt s14, mm.cellAt s15, mm.cellAt s16⟩, mm⟩
  try simp only [Act.put, List.getElem_toArray, List.getElem_cons_succ, List.getElem_cons_zero, List.setIfInBounds_toArray, List.set_cons_zero, List.set_cons_succ]
  first | (refine WkS.skip (m := 1) (k := 15) rfl (by rfl) ?_) | (refine WkS.pure (m := 1) (k := 15) (v := _) rfl (by rfl) (fun wv => by go_simp; try with_reducible rfl) ?_) | (refine WkS.step (m := 1) (k := 15) (v := _) rfl (by rfl) (by kernel_rfl) (fun wv hS => by obtain ⟨s0, s1, s2, s3, s4, s5, s6, s7, s8, s9, s10, s11, s12, s13, s14, s15, s16⟩ := hS; go_simp; try with_reducible rfl) ?_)
  try simp only [Act.put, List.getElem_toArray, List.getElem_cons_succ, List.getElem_cons_zero, List.setIfInBounds_toArray, List.set_cons_zero, List.set_cons_succ]
  refine WkS.call (m := 0) (k := 16) (v := .agg #[.int .i64 (q : Int), .int .i64 i, .int .i64 o, .int .i64 ev, .int .i64 mv]) _ _ rfl (by rfl) (by kernel_rfl) (fun wv hS => by obtain ⟨s0, s1, s2, s3, s4, s5, s6, s7, s8, s9, s10, s11, s12, s13, s14, s15, s16⟩ := hS; go_simp; first | done | exact ⟨rfl, rfl⟩ | with_reducible rfl) (fun wv hS => ?_) ?_; · obtain ⟨s0, s1, s2, s3, s4, s5, s6, s7, s8, s9, s10, s11, s12, s13, s14, s15, s16⟩ := hS; refine (specAuth x.key x0 β (q : Int) i o ev 0 wv HK.out HH.out).mono ?_; rintro e w' ⟨he, bm⟩; have mm := Mk.of_below bm; exact ⟨by rw [he, hmv.out], ⟨s0.trans mm, mm.cellAt s1, mm.cellAt s2, mm.cellAt s3, mm.cellAt s4, mm.cellAt s5, mm.cellAt s6, mm.cellAt s7, mm.cellAt s8, mm.cellAt s9, mm.cellAt s10, mm.cellAt s11, mm.cellAt s12, mm.cellAt s13, mm.cellAt s14, mm.cellAt s15, mm.cellAt s16⟩, mm⟩
  try simp only [Act.put, List.getElem_toArray, List.getElem_cons_succ, List.getElem_cons_zero, List.setIfInBounds_toArray, List.set_cons_zero, List.set_cons_succ]
  refine WkS.done fun wE hE => ?_
  clear k0 j0 j1 j2 r0 r1 r2 u0 u1 u2 q0 q1 q2 q3 q4 d2
  obtain ⟨mE, k0, j0, j1, j2, r0, r1, r2, u0, u1, u2, q0, q1, q2, q3, q4, d2⟩ := hE
  have zE0 := mE.size
  change wpSoft _ _ _ _ 18 1 _ _
  refine wpSoft.value (n := 0) (w1 := (wE.alloc (Obj.cells #[Value.int .i64 (q : Int), Value.int .i64 i, Value.int .i64 o, Value.int .i64 ev, Value.int .i64 mv] 72))) _ rfl (by rfl) (by go_simp; first | done | exact ⟨rfl, rfl⟩ | with_reducible rfl) ⟨mE.trans (Mk.alloc wE (Obj.cells #[Value.int .i64 (q : Int), Value.int .i64 i, Value.int .i64 o, Value.int .i64 ev, Value.int .i64 mv] 72)), (Mk.alloc wE (Obj.cells #[Value.int .i64 (q : Int), Value.int .i64 i, Value.int .i64 o, Value.int .i64 ev, Value.int .i64 mv] 72)).cellAt k0, (Mk.alloc wE (Obj.cells #[Value.int .i64 (q : Int), Value.int .i64 i, Value.int .i64 o, Value.int .i64 ev, Value.int .i64 mv] 72)).cellAt j0, (Mk.alloc wE (Obj.cells #[Value.int .i64 (q : Int), Value.int .i64 i, Value.int .i64 o, Value.int .i64 ev, Value.int .i64 mv] 72)).cellAt j1, (Mk.alloc wE (Obj.cells #[Value.int .i64 (q : Int), Value.int .i64 i, Value.int .i64 o, Value.int .i64 ev, Value.int .i64 mv] 72)).cellAt j2, (Mk.alloc wE (Obj.cells #[Value.int .i64 (q : Int), Value.int .i64 i, Value.int .i64 o, Value.int .i64 ev, Value.int .i64 mv] 72)).cellAt r0, (Mk.alloc wE (Obj.cells #[Value.int .i64 (q : Int), Value.int .i64 i, Value.int .i64 o, Value.int .i64 ev, Value.int .i64 mv] 72)).cellAt r1, (Mk.alloc wE (Obj.cells #[Value.int .i64 (q : Int), Value.int .i64 i, Value.int .i64 o, Value.int .i64 ev, Value.int .i64 mv] 72)).cellAt r2, (Mk.alloc wE (Obj.cells #[Value.int .i64 (q : Int), Value.int .i64 i, Value.int .i64 o, Value.int .i64 ev, Value.int .i64 mv] 72)).cellAt u0, (Mk.alloc wE (Obj.cells #[Value.int .i64 (q : Int), Value.int .i64 i, Value.int .i64 o, Value.int .i64 ev, Value.int .i64 mv] 72)).cellAt u1, (Mk.alloc wE (Obj.cells #[Value.int .i64 (q : Int), Value.int .i64 i, Value.int .i64 o, Value.int .i64 ev, Value.int .i64 mv] 72)).cellAt u2, (Mk.alloc wE (Obj.cells #[Value.int .i64 (q : Int), Value.int .i64 i, Value.int .i64 o, Value.int .i64 ev, Value.int .i64 mv] 72)).cellAt q0, (Mk.alloc wE (Obj.cells #[Value.int .i64 (q : Int), Value.int .i64 i, Value.int .i64 o, Value.int .i64 ev, Value.int .i64 mv] 72)).cellAt q1, (Mk.alloc wE (Obj.cells #[Value.int .i64 (q : Int), Value.int .i64 i, Value.int .i64 o, Value.int .i64 ev, Value.int .i64 mv] 72)).cellAt q2, (Mk.alloc wE (Obj.cells #[Value.int .i64 (q : Int), Value.int .i64 i, Value.int .i64 o, Value.int .i64 ev, Value.int .i64 mv] 72)).cellAt q3, (Mk.alloc wE (Obj.cells #[Value.int .i64 (q : Int), Value.int .i64 i, Value.int .i64 o, Value.int .i64 ev, Value.int .i64 mv] 72)).cellAt q4, (Mk.alloc wE (Obj.cells #[Value.int .i64 (q : Int), Value.int .i64 i, Value.int .i64 o, Value.int .i64 ev, Value.int .i64 mv] 72)).cellAt d2⟩ ?_
  have hh8 := hasR_new (cell := THop.cell) (nc := 5) (by decide) wE 72 (⟨(q : Int), i, o, ev, mv⟩ : THop) #[Value.int .i64 (q : Int), Value.int .i64 i, Value.int .i64 o, Value.int .i64 ev, Value.int .i64 mv] (fun j hj => by match j, hj with | 0, _ => rfl | 1, _ => rfl | 2, _ => rfl | 3, _ => rfl | 4, _ => rfl)
  intro wG0 mG0 hG0
  clear mE k0 j0 j1 j2 r0 r1 r2 u0 u1 u2 q0 q1 q2 q3 q4 d2
  obtain ⟨mE, k0, j0, j1, j2, r0, r1, r2, u0, u1, u2, q0, q1, q2, q3, q4, d2⟩ := hG0
  replace hh8 := (hh8.mk mG0 (Nat.le_refl _) (.inr (Nat.le_refl _))).mono mG0.size
  have zG := mG0.size
  rw [World.size_alloc] at zG
  try simp only [Act.put, List.getElem_toArray, List.getElem_cons_succ, List.getElem_cons_zero, List.setIfInBounds_toArray, List.set_cons_zero, List.set_cons_succ]
  refine wpSoft.done ?_
  simp only [List.drop_succ_cons, List.drop_zero]
  have M9 := HM.out.trans mE
  have hown8 := own_keptR HO.out mE
  have fXE := fun q2 => (mE.frozen (b := w2.heap.size) (o := q2) (by omega) (.inr (Nat.zero_le _))).trans (HFX.out q2)
  have fRE := fun q2 => (mE.frozen (b := w.heap.size + 1 + 1 + 1) (o := q2) (by omega) (.inr (Nat.zero_le _))).trans (HFR.out q2)
  have zzE := mE.size
  go_wp2_with (at_builtin; refine wpList_appR4 (nc := 5) (cell := THop.cell) (by decide) oneHopC rfl (.tmp 26) (.tmp 42) 29 rfl WW.heap.size 72 i0 _ Tryz.underlying29 hi0 hz0 rfl hz1 (by rw [hz2]; decide) _ hs n rfl hown8 _ 1 1 [(⟨(q : Int), i, o, ev, mv⟩ : THop)] rfl (fun h => by cases h) hh8 (by omega) (by omega) ?_; intro v9 w9 hown9 hgr9 hat9; have hneX : ∀ g, (Value.slice A n C).ownBlock = some g → g ≠ w2.heap.size := fun g hg => (by have := (HO2.out.lt g hg).2; omega); have hneR : ∀ g, (Value.slice A n C).ownBlock = some g → g ≠ w.heap.size + 1 + 1 + 1 := fun g hg => (by have := (hown8.lt g hg).1; omega); have hneX2 : ∀ g, v9.ownBlock = some g → g ≠ w2.heap.size := fun g hg => (by rcases hat9 with e | e <;> rw [e] at hg <;> first | exact hneX g hg | (injection hg with hg; omega)); have t0 := grown_cell u0 hgr9 hneX; have t1 := grown_cell u1 hgr9 hneX; have t2 := grown_cell u2 hgr9 hneX; have v0 := grown_cell r0 hgr9 hneR; have v1 := grown_cell r1 hgr9 hneR; have v2 := grown_cell r2 hgr9 hneR; have tX := fun q2 => grown_frz (fXE q2) (World.block_lt_of_cell? _ _ u0) hgr9 hneX; have tR := fun q2 => grown_frz (fRE q2) (World.block_lt_of_cell? _ _ r0) hgr9 hneR; have MA := M9.appR hgr9 (fun g hg => by have := (hown8.lt g hg).1; omega); obtain ⟨A2, C2, rfl, hca2, hcb2⟩ := ownsRow_sliceR2 hown9)
  try simp only [noPan]
  try (go_wp2_with fail)
  replace t0 := cell_set t0 ⟨w2.heap.size, 2, none⟩ (.slice A2 (n + 1) C2) (.inr (by simp))
  replace t1 := cell_set t1 ⟨w2.heap.size, 2, none⟩ (.slice A2 (n + 1) C2) (.inr (by simp))
  replace t2 := World.cell?_setCell_same _ _ (.slice A2 (n + 1) C2) t2
  replace v0 := cell_set v0 ⟨w2.heap.size, 2, none⟩ (.slice A2 (n + 1) C2) (.inl (show w2.heap.size ≠ w.heap.size + 1 + 1 + 1 from by omega))
  replace v1 := cell_set v1 ⟨w2.heap.size, 2, none⟩ (.slice A2 (n + 1) C2) (.inl (show w2.heap.size ≠ w.heap.size + 1 + 1 + 1 from by omega))
  replace v2 := cell_set v2 ⟨w2.heap.size, 2, none⟩ (.slice A2 (n + 1) C2) (.inl (show w2.heap.size ≠ w.heap.size + 1 + 1 + 1 from by omega))
  replace hown9 := own_put_ne hown9 ⟨w2.heap.size, 2, none⟩ (.slice A2 (n + 1) C2) hneX2
  replace MA := MA.put ⟨w2.heap.size, 2, none⟩ (.slice A2 (n + 1) C2) (show w.heap.size ≤ w2.heap.size from by omega)
  replace v0 := World.cell?_setCell_same _ _ (.int .i64 x0) v0
  replace v1 := cell_set v1 ⟨w.heap.size + 1 + 1 + 1, 0, none⟩ (.int .i64 x0) (.inr (by simp))
  replace v2 := cell_set v2 ⟨w.heap.size + 1 + 1 + 1, 0, none⟩ (.int .i64 x0) (.inr (by simp))
  replace hown9 := own_put hown9 ⟨w.heap.size + 1 + 1 + 1, 0, none⟩ (.int .i64 x0) (show w.heap.size + 1 + 1 + 1 < _ from by omega)
  replace MA := MA.put ⟨w.heap.size + 1 + 1 + 1, 0, none⟩ (.int .i64 x0) (show w.heap.size ≤ w.heap.size + 1 + 1 + 1 from by omega)
  replace v0 := cell_set v0 ⟨w.heap.size + 1 + 1 + 1, 1, none⟩ (.int .i64 x1) (.inr (by simp))
  replace v1 := World.cell?_setCell_same _ _ (.int .i64 x1) v1
  replace v2 := cell_set v2 ⟨w.heap.size + 1 + 1 + 1, 1, none⟩ (.int .i64 x1) (.inr (by simp))
  replace hown9 := own_put hown9 ⟨w.heap.size + 1 + 1 + 1, 1, none⟩ (.int .i64 x1) (show w.heap.size + 1 + 1 + 1 < _ from by omega)
  replace MA := MA.put ⟨w.heap.size + 1 + 1 + 1, 1, none⟩ (.int .i64 x1) (show w.heap.size ≤ w.heap.size + 1 + 1 + 1 from by omega)
  replace v0 := cell_set v0 ⟨w.heap.size + 1 + 1 + 1, 2, none⟩ (.slice A2 (n + 1) C2) (.inr (by simp))
  replace v1 := cell_set v1 ⟨w.heap.size + 1 + 1 + 1, 2, none⟩ (.slice A2 (n + 1) C2) (.inr (by simp))
  replace v2 := World.cell?_setCell_same _ _ (.slice A2 (n + 1) C2) v2
  replace hown9 := own_put hown9 ⟨w.heap.size + 1 + 1 + 1, 2, none⟩ (.slice A2 (n + 1) C2) (show w.heap.size + 1 + 1 + 1 < _ from by omega)
  replace MA := MA.put ⟨w.heap.size + 1 + 1 + 1, 2, none⟩ (.slice A2 (n + 1) C2) (show w.heap.size ≤ w.heap.size + 1 + 1 + 1 from by omega)
  generalize ((((w9.setCell ⟨w2.heap.size, 2, none⟩ (.slice A2 (n + 1) C2)).setCell ⟨w.heap.size + 1 + 1 + 1, 0, none⟩ (.int .i64 x0)).setCell ⟨w.heap.size + 1 + 1 + 1, 1, none⟩ (.int .i64 x1)).setCell ⟨w.heap.size + 1 + 1 + 1, 2, none⟩ (.slice A2 (n + 1) C2)) = wF at *
  exact bodyPost_ret (v := .agg #[.int .i64 x0, .int .i64 x1, .slice A2 (n + 1) C2]) (by simp [results, Tryz.results54, go_sem, v0, v1, v2]) rfl (show OutOSegment x0 x1 (growR zA p x0 x1 hs n (q : Int) i o true) w _ wF from ⟨_, _, _, rfl, (show wF.ownsRow w.heap.size 72 5 _ _ _ from by rw [show growR zA p x0 x1 hs n (q : Int) i o true = hs ++ [⟨(q : Int), i, o, ev, mv⟩] from HGR.out]; exact own_lowR hown9 (by omega)), MA⟩)

end Go.Proofs.YtbbcpdgdihdmiaaGreatDoor
