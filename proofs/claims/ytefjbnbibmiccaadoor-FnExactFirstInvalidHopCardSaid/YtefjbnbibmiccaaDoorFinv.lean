
/- FirstInvalidHop of both sides. -/
import Derived.Test.YtefjbnbibmiccaaDoorVHops
import Derived.Test.YtefjbnbibmiccaaDoorAs
import Derived.Test.YtefjbnbibmiccaaDoorRet
namespace Go.Proofs.YtefjbnbibmiccaaDoor
open Go.ChangeShapes Go.WideShapes Go.ChangeAt Go.RowKit
set_option linter.unusedVariables false
/-- The first of n numbers that meets p, else -1. -/
def fiN (p : Nat → Bool) (n : Nat) : Nat → Int
  | 0 => -1
  | m + 1 => if p (n - (m + 1)) = true then ((n - (m + 1) : Nat) : Int) else fiN p n m
theorem fiN_stop {p : Nat → Bool} {n k : Nat} (hk : k < n) (h : p k = true) : fiN p n (n - k) = (k : Int) := by
  obtain ⟨m, hm⟩ : ∃ m, n - k = m + 1 := ⟨n - k - 1, by omega⟩
  rw [hm, fiN, show n - (m + 1) = k by omega, if_pos h]
theorem fiN_go {p : Nat → Bool} {n k : Nat} (hk : k < n) (h : p k = false) : fiN p n (n - k) = fiN p n (n - (k + 1)) := by
  obtain ⟨m, hm⟩ : ∃ m, n - k = m + 1 := ⟨n - k - 1, by omega⟩
  rw [hm, fiN, show n - (m + 1) = k by omega, if_neg (by rw [h]; decide), show n - (k + 1) = m by omega]
theorem fiN_ge (p : Nat → Bool) (n : Nat) : ∀ m, -1 ≤ fiN p n m
  | 0 => by simp [fiN]
  | m + 1 => by
    rw [fiN]
    split
    · omega
    · exact fiN_ge p n m
/-- Hop k does not verify. -/
def badH (zA : List TAS) (n0 : Nat) (t b : Int) (hs : List THop) (k : Nat) : Bool := !vAt zA n0 t b hs k
def fiV (zA : List TAS) (n0 : Nat) (t b : Int) (hs : List THop) (n : Nat) : Int := fiN (badH zA n0 t b hs) n n
def errOf (v : Int) : Value := if v < 0 then .nilIface else .iface 55 (.agg #[.int .i64 v])
set_option maxRecDepth 100000 in
set_option maxHeartbeats 4000000 in
theorem implCheck (a0 a1 : Option Addr) (n0 c0 n1 c1 B : Nat) (zA : List TAS) (x0 x1 : Int) (a : Option Addr) (n c B' : Nat) (hs : List THop) (w : World) (hA : HasAS w B a0 n0 zA) (hB : B ≤ w.heap.size) (hn0 : n0 ≤ 1048576) (h : HasHop w B' a n hs) (hB' : B' ≤ w.heap.size) (hn : n ≤ 1048576) (hz : ∀ y ∈ zA, TAS.fits y) (ht : (Lit.int .i64 x0).wf = true) (hb : (Lit.int .i64 x1).wf = true) (hf : ∀ y ∈ hs, THop.fits y) :
    Calls Tryd.prog 21 #[.agg #[.slice a0 n0 c0, .slice a1 n1 c1], .agg #[.int .i64 x0, .int .i64 x1, .slice a n c]] w fun e w' => e = .returned (errOf (fiV zA n0 x0 x1 hs n)) ∧ Mk0 w w' := by
  have M0 := (Mk.alloc w (Obj.cells #[Value.slice a0 n0 c0, Value.slice a1 n1 c1] 35)).new (Obj.cells #[Value.int .i64 x0, Value.int .i64 x1, Value.slice a n c] 39)
  have k0 : ((w.alloc (Obj.cells #[Value.slice a0 n0 c0, Value.slice a1 n1 c1] 35)).alloc (Obj.cells #[Value.int .i64 x0, Value.int .i64 x1, Value.slice a n c] 39)).cell? ⟨w.heap.size, 0, none⟩ = some (.slice a0 n0 c0) := by simp [go_sem]
  have k1 : ((w.alloc (Obj.cells #[Value.slice a0 n0 c0, Value.slice a1 n1 c1] 35)).alloc (Obj.cells #[Value.int .i64 x0, Value.int .i64 x1, Value.slice a n c] 39)).cell? ⟨w.heap.size, 1, none⟩ = some (.slice a1 n1 c1) := by simp [go_sem]
  have j0 : ((w.alloc (Obj.cells #[Value.slice a0 n0 c0, Value.slice a1 n1 c1] 35)).alloc (Obj.cells #[Value.int .i64 x0, Value.int .i64 x1, Value.slice a n c] 39)).cell? ⟨w.heap.size + 1, 0, none⟩ = some (.int .i64 x0) := by simp [go_sem]
  have j1 : ((w.alloc (Obj.cells #[Value.slice a0 n0 c0, Value.slice a1 n1 c1] 35)).alloc (Obj.cells #[Value.int .i64 x0, Value.int .i64 x1, Value.slice a n c] 39)).cell? ⟨w.heap.size + 1, 1, none⟩ = some (.int .i64 x1) := by simp [go_sem]
  have j2 : ((w.alloc (Obj.cells #[Value.slice a0 n0 c0, Value.slice a1 n1 c1] 35)).alloc (Obj.cells #[Value.int .i64 x0, Value.int .i64 x1, Value.slice a n c] 39)).cell? ⟨w.heap.size + 1, 2, none⟩ = some (.slice a n c) := by simp [go_sem]
  go_enter Tryd.func21, Tryd.ntmps21
  go_wp2_with fail
  refine (implVHops a0 a1 n0 c0 n1 c1 B zA x0 x1 a n c B' hs _ (hA.mk M0 hB (.inr (Nat.le_refl _))) (Nat.le_trans hB M0.size) hn0 (h.mk M0 hB' (.inr (Nat.le_refl _))) (Nat.le_trans hB' M0.size) hn hz ht hb hf).mono ?_
  rintro e w2 ⟨g, rfl, hc, m2⟩
  have M2 := M0.trans m2
  have HC := Lib.hid hc
  clear hc hz ht hb hf
  go_wp2_with fail
  go_loopw [4, 11] (fun rr i wr => rr = .nilIface ∧ ∃ k : Nat, k ≤ n ∧ i = .int .i64 k ∧ Hid (fiV zA n0 x0 x1 hs n = fiN (badH zA n0 x0 x1 hs) n (n - k)) ∧ Mk0 w2 wr) (fun _ i _ => n - (intOf i).toNat)
  case atStart => exact ⟨rfl, 0, Nat.zero_le _, rfl, rfl, Mk.refl _ _ _⟩
  case round =>
    obtain ⟨rfl, k, hk, rfl, hS, hM⟩ := hrel
    have hM' := M2.trans hM
    by_cases hlt : k < n
    · have cv := hM.cellAt (HC.out k hlt)
      have i1 : (0 : Int) ≤ (k : Int) := by omega
      have i2 : (k : Int) < (n : Int) := by omega
      obtain ⟨V, hV⟩ : ∃ V, Hid (V = vAt zA n0 x0 x1 hs k) := ⟨_, Lib.hid rfl⟩
      rw [← hV.out] at cv
      cases hv : V
      · rw [hv] at cv hV
        have HV2 := Lib.hid hV.out.symm
        have HE := Lib.hid (show fiV zA n0 x0 x1 hs n = (k : Int) by rw [hS.out]; exact fiN_stop hlt (by unfold badH; rw [HV2.out]; rfl))
        clear hv hV
        go_wp2_with fail
        go_ret
        exact ⟨congrArg _ (by rw [HE.out]; unfold errOf; rw [if_neg (by omega)]; rfl), hM'⟩
      · rw [hv] at cv hV
        have HV2 := Lib.hid hV.out.symm
        have HE := Lib.hid (show fiV zA n0 x0 x1 hs n = fiN (badH zA n0 x0 x1 hs) n (n - (k + 1)) by rw [hS.out]; exact fiN_go hlt (by unfold badH; rw [HV2.out]; rfl))
        clear hv hV
        go_wp2_with fail
        go_roundw
        case rel => exact ⟨rfl, k + 1, by omega, by go_num, HE.out, hM⟩
        case measure => simp [intOf]; omega
    · obtain rfl : k = n := by omega
      go_wp2_with fail
      go_ret
      exact ⟨congrArg _ (by rw [hS.out, Nat.sub_self]; rfl), hM'⟩

set_option maxRecDepth 100000 in
set_option maxHeartbeats 4000000 in
theorem implFInv (a0 a1 : Option Addr) (n0 c0 n1 c1 B : Nat) (zA : List TAS) (x0 x1 : Int) (a : Option Addr) (n c B' : Nat) (hs : List THop) (w : World) (hA : HasAS w B a0 n0 zA) (hB : B ≤ w.heap.size) (hn0 : n0 ≤ 1048576) (h : HasHop w B' a n hs) (hB' : B' ≤ w.heap.size) (hn : n ≤ 1048576) (hz : ∀ y ∈ zA, TAS.fits y) (ht : (Lit.int .i64 x0).wf = true) (hb : (Lit.int .i64 x1).wf = true) (hf : ∀ y ∈ hs, THop.fits y) (hg : w.cell? ⟨0, 0, none⟩ = some (.iface 102 (.agg #[.pointer (some ⟨1, 58, none⟩)]))) :
    Calls Tryd.prog 9 #[.agg #[.slice a0 n0 c0, .slice a1 n1 c1], .agg #[.int .i64 x0, .int .i64 x1, .slice a n c]] w fun e w' => e = .returned (.int .i64 (fiV zA n0 x0 x1 hs n)) ∧ Mk0 w w' := by
  have M0 := ((Mk.alloc w (Obj.cells #[Value.slice a0 n0 c0, Value.slice a1 n1 c1] 35)).new (Obj.cells #[Value.int .i64 x0, Value.int .i64 x1, Value.slice a n c] 39)).new (Obj.cells #[Value.int .i64 0] 55)
  have k0 : (((w.alloc (Obj.cells #[Value.slice a0 n0 c0, Value.slice a1 n1 c1] 35)).alloc (Obj.cells #[Value.int .i64 x0, Value.int .i64 x1, Value.slice a n c] 39)).alloc (Obj.cells #[Value.int .i64 0] 55)).cell? ⟨w.heap.size, 0, none⟩ = some (.slice a0 n0 c0) := by simp [go_sem]
  have k1 : (((w.alloc (Obj.cells #[Value.slice a0 n0 c0, Value.slice a1 n1 c1] 35)).alloc (Obj.cells #[Value.int .i64 x0, Value.int .i64 x1, Value.slice a n c] 39)).alloc (Obj.cells #[Value.int .i64 0] 55)).cell? ⟨w.heap.size, 1, none⟩ = some (.slice a1 n1 c1) := by simp [go_sem]
  have j0 : (((w.alloc (Obj.cells #[Value.slice a0 n0 c0, Value.slice a1 n1 c1] 35)).alloc (Obj.cells #[Value.int .i64 x0, Value.int .i64 x1, Value.slice a n c] 39)).alloc (Obj.cells #[Value.int .i64 0] 55)).cell? ⟨w.heap.size + 1, 0, none⟩ = some (.int .i64 x0) := by simp [go_sem]
  have j1 : (((w.alloc (Obj.cells #[Value.slice a0 n0 c0, Value.slice a1 n1 c1] 35)).alloc (Obj.cells #[Value.int .i64 x0, Value.int .i64 x1, Value.slice a n c] 39)).alloc (Obj.cells #[Value.int .i64 0] 55)).cell? ⟨w.heap.size + 1, 1, none⟩ = some (.int .i64 x1) := by simp [go_sem]
  have j2 : (((w.alloc (Obj.cells #[Value.slice a0 n0 c0, Value.slice a1 n1 c1] 35)).alloc (Obj.cells #[Value.int .i64 x0, Value.int .i64 x1, Value.slice a n c] 39)).alloc (Obj.cells #[Value.int .i64 0] 55)).cell? ⟨w.heap.size + 1, 2, none⟩ = some (.slice a n c) := by simp [go_sem]
  have v0 : (((w.alloc (Obj.cells #[Value.slice a0 n0 c0, Value.slice a1 n1 c1] 35)).alloc (Obj.cells #[Value.int .i64 x0, Value.int .i64 x1, Value.slice a n c] 39)).alloc (Obj.cells #[Value.int .i64 0] 55)).cell? ⟨w.heap.size + 1 + 1, 0, none⟩ = some (.int .i64 0) := by simp [go_sem]
  have fv : (((w.alloc (Obj.cells #[Value.slice a0 n0 c0, Value.slice a1 n1 c1] 35)).alloc (Obj.cells #[Value.int .i64 x0, Value.int .i64 x1, Value.slice a n c] 39)).alloc (Obj.cells #[Value.int .i64 0] 55)).frozen? ⟨w.heap.size + 1 + 1, 0, none⟩ = false := by simp [go_sem]
  have hs3 : (((w.alloc (Obj.cells #[Value.slice a0 n0 c0, Value.slice a1 n1 c1] 35)).alloc (Obj.cells #[Value.int .i64 x0, Value.int .i64 x1, Value.slice a n c] 39)).alloc (Obj.cells #[Value.int .i64 0] 55)).heap.size = w.heap.size + 1 + 1 + 1 := by rw [World.size_alloc, World.size_alloc, World.size_alloc]
  replace hg := M0.cellAt hg
  go_enter Tryd.func9, Tryd.ntmps9
  go_wp2_with fail
  generalize (((w.alloc (Obj.cells #[Value.slice a0 n0 c0, Value.slice a1 n1 c1] 35)).alloc (Obj.cells #[Value.int .i64 x0, Value.int .i64 x1, Value.slice a n c] 39)).alloc (Obj.cells #[Value.int .i64 0] 55)) = WW at *
  refine (implCheck a0 a1 n0 c0 n1 c1 B zA x0 x1 a n c B' hs _ (hA.mk M0 hB (.inr (Nat.le_refl _))) (Nat.le_trans hB M0.size) hn0 (h.mk M0 hB' (.inr (Nat.le_refl _))) (Nat.le_trans hB' M0.size) hn hz ht hb hf).mono ?_
  rintro e w2 ⟨he, m2⟩
  have hfr := m2.frozen (b := w.heap.size + 1 + 1) (o := 0) (by omega) (.inr (Nat.zero_le _))
  rw [fv] at hfr
  replace hg := m2.cellAt hg
  replace v0 := m2.cellAt v0
  have M2 := M0.trans m2
  have hsz := m2.size
  obtain ⟨V, hV⟩ : ∃ V, Hid (V = fiV zA n0 x0 x1 hs n) := ⟨_, Lib.hid rfl⟩
  rw [← hV.out] at he
  have hge : -1 ≤ V := by rw [hV.out]; exact fiN_ge _ _ _
  by_cases hneg : V < 0
  · have hV1 : V = -1 := by omega
    have HR := Lib.hid (hV.out.symm.trans hV1)
    rw [show errOf V = .nilIface from if_pos hneg] at he
    subst he
    clear hV1 hneg hge hz hf
    go_wp2_with fail
    refine (as_nil _ _).mono ?_
    rintro e w3 ⟨rfl, rfl⟩
    go_wp2_with fail
    go_ret
    exact ⟨retI HR.out.symm, M2⟩
  · rw [show errOf V = .iface 55 (.agg #[.int .i64 V]) from if_neg hneg] at he
    subst he
    have HR := Lib.hid hV.out
    clear hge hneg hz hf
    go_wp2_with fail
    refine (as_hit V ⟨w.heap.size + 1 + 1, 0, none⟩ (.int .i64 0) w2 hg v0 hfr).mono ?_
    rintro e w3 ⟨rfl, hw3⟩
    have MM := ((((M2.new (.cells #[.pointer (some ⟨w.heap.size + 1 + 1, 0, none⟩)] 60)).new (.cells #[.pointer (some ⟨1, 60, none⟩), .pointer (some ⟨w2.heap.size, 0, none⟩), .int .u64 150] 84)).new (.cells #[.pointer (some ⟨1, 60, none⟩), .pointer (some ⟨w2.heap.size, 0, none⟩), .int .u64 150] 84)).new (.cells #[.int .i64 V] 55)).put ⟨w.heap.size + 1 + 1, 0, none⟩ (.int .i64 V) (by show w.heap.size ≤ w.heap.size + 1 + 1; omega)
    rw [← hw3] at MM
    have v3 : w3.cell? ⟨w.heap.size + 1 + 1, 0, none⟩ = some (.int .i64 V) := by
      rw [hw3]
      refine World.cell?_setCell_same _ _ (.int .i64 V) (?_ : _ = some (.int .i64 0))
      rw [World.cell?_alloc_lt _ _ _ (by simp only [World.size_alloc]; omega), World.cell?_alloc_lt _ _ _ (by simp only [World.size_alloc]; omega), World.cell?_alloc_lt _ _ _ (by simp only [World.size_alloc]; omega), World.cell?_alloc_lt _ _ _ (by show w.heap.size + 1 + 1 < w2.heap.size; omega)]
      exact v0
    clear hw3
    go_wp2_with fail
    go_ret
    exact ⟨retI HR.out, MM⟩

set_option maxRecDepth 100000 in
set_option maxHeartbeats 4000000 in
theorem specFInv (a0 a1 : Option Addr) (n0 c0 n1 c1 B : Nat) (zA : List TAS) (x0 x1 : Int) (a : Option Addr) (n c B' : Nat) (hs : List THop) (w : World) (hA : HasAS w B a0 n0 zA) (hB : B ≤ w.heap.size) (hn0 : n0 ≤ 1048576) (h : HasHop w B' a n hs) (hB' : B' ≤ w.heap.size) (hn : n ≤ 1048576) (hz : ∀ y ∈ zA, TAS.fits y) (ht : (Lit.int .i64 x0).wf = true) (hb : (Lit.int .i64 x1).wf = true) (hf : ∀ y ∈ hs, THop.fits y) :
    Calls Tryd.prog 6 #[.agg #[.slice a0 n0 c0, .slice a1 n1 c1], .agg #[.int .i64 x0, .int .i64 x1, .slice a n c]] w fun e w' => e = .returned (.int .i64 (fiV zA n0 x0 x1 hs n)) ∧ Mk0 w w' := by
  have M0 := (Mk.alloc w (Obj.cells #[Value.slice a0 n0 c0, Value.slice a1 n1 c1] 35)).new (Obj.cells #[Value.int .i64 x0, Value.int .i64 x1, Value.slice a n c] 39)
  have k0 : ((w.alloc (Obj.cells #[Value.slice a0 n0 c0, Value.slice a1 n1 c1] 35)).alloc (Obj.cells #[Value.int .i64 x0, Value.int .i64 x1, Value.slice a n c] 39)).cell? ⟨w.heap.size, 0, none⟩ = some (.slice a0 n0 c0) := by simp [go_sem]
  have k1 : ((w.alloc (Obj.cells #[Value.slice a0 n0 c0, Value.slice a1 n1 c1] 35)).alloc (Obj.cells #[Value.int .i64 x0, Value.int .i64 x1, Value.slice a n c] 39)).cell? ⟨w.heap.size, 1, none⟩ = some (.slice a1 n1 c1) := by simp [go_sem]
  have j0 : ((w.alloc (Obj.cells #[Value.slice a0 n0 c0, Value.slice a1 n1 c1] 35)).alloc (Obj.cells #[Value.int .i64 x0, Value.int .i64 x1, Value.slice a n c] 39)).cell? ⟨w.heap.size + 1, 0, none⟩ = some (.int .i64 x0) := by simp [go_sem]
  have j1 : ((w.alloc (Obj.cells #[Value.slice a0 n0 c0, Value.slice a1 n1 c1] 35)).alloc (Obj.cells #[Value.int .i64 x0, Value.int .i64 x1, Value.slice a n c] 39)).cell? ⟨w.heap.size + 1, 1, none⟩ = some (.int .i64 x1) := by simp [go_sem]
  have j2 : ((w.alloc (Obj.cells #[Value.slice a0 n0 c0, Value.slice a1 n1 c1] 35)).alloc (Obj.cells #[Value.int .i64 x0, Value.int .i64 x1, Value.slice a n c] 39)).cell? ⟨w.heap.size + 1, 2, none⟩ = some (.slice a n c) := by simp [go_sem]
  have HZ := Lib.hid hz
  have HFF := Lib.hid hf
  have HBF := Lib.hid (bUp_fits hb hs)
  have HTF := Lib.hid ht
  clear hz hf hb ht
  go_enter Tryd.func6, Tryd.ntmps6
  go_wp2_with fail
  go_loopw [4, 5] (fun rr i wr => rr = .int .i64 0 ∧ ∃ k : Nat, k ≤ n ∧ i = .int .i64 k ∧ Hid (fiV zA n0 x0 x1 hs n = fiN (badH zA n0 x0 x1 hs) n (n - k)) ∧ Mk0 ((w.alloc (Obj.cells #[Value.slice a0 n0 c0, Value.slice a1 n1 c1] 35)).alloc (Obj.cells #[Value.int .i64 x0, Value.int .i64 x1, Value.slice a n c] 39)) wr) (fun _ i _ => n - (intOf i).toNat)
  case atStart => exact ⟨rfl, 0, Nat.zero_le _, rfl, rfl, Mk.refl _ _ _⟩
  case round =>
    obtain ⟨rfl, k, hk, rfl, hS, hM⟩ := hrel
    replace k0 := hM.cellAt k0
    replace k1 := hM.cellAt k1
    replace j0 := hM.cellAt j0
    replace j1 := hM.cellAt j1
    replace j2 := hM.cellAt j2
    have hM' := M0.trans hM
    by_cases hlt : k < n
    · obtain ⟨b, off, x, eb, hb2, hx, d0, d1, d2, d3, d4⟩ := HasHop.at _ _ _ _ _ _ (h.mk hM' hB' (.inr (Nat.le_refl _))) hlt
      subst eb
      have i1 : (0 : Int) ≤ (k : Int) := by omega
      have i2 : (k : Int) < (n : Int) := by omega
      have HXF := Lib.hid (hopL_fits HTF.out (HBF.out k) (hopfit h.1 hlt HFF.out hx.out))
      obtain ⟨V, hV⟩ : ∃ V, Hid (V = vAt zA n0 x0 x1 hs k) := ⟨_, Lib.hid rfl⟩
      have HV := Lib.hid (show vhB zA n0 x0 (bUp x1 hs k) x.nd x.ing x.eg x.exp x.mac = V by rw [hV.out]; unfold vAt; rw [← hx.out])
      obtain ⟨β, hβ⟩ : ∃ β, Hid (β = bUp x1 hs k) := ⟨_, Lib.hid rfl⟩
      rw [← hβ.out] at HXF HV
      have HBE := Lib.hid ((betaV_bUp (b := x1) (hs := hs) (n := n) (q := k) hk).trans hβ.out.symm)
      cases hv : V
      · rw [hv] at HV hV
        have HV2 := Lib.hid hV.out.symm
        have HE := Lib.hid (show fiV zA n0 x0 x1 hs n = (k : Int) by rw [hS.out]; exact fiN_stop hlt (by unfold badH; rw [HV2.out]; rfl))
        clear hv hV
        go_wp2_with fail
        refine wp_region_wk (fun w' => Mk0 wr w' ∧ w'.cell? ⟨w.heap.size, 0, none⟩ = some (.slice a0 n0 c0) ∧ w'.cell? ⟨w.heap.size, 1, none⟩ = some (.slice a1 n1 c1) ∧ w'.cell? ⟨w.heap.size + 1, 0, none⟩ = some (.int .i64 x0) ∧ w'.cell? ⟨w.heap.size + 1, 1, none⟩ = some (.int .i64 x1) ∧ w'.cell? ⟨w.heap.size + 1, 2, none⟩ = some (.slice (some ⟨b, off, none⟩) n c) ∧ w'.cell? ⟨b, off + k * 5, none⟩ = some (.int .i64 x.nd) ∧ w'.cell? ⟨b, off + k * 5 + 1, none⟩ = some (.int .i64 x.ing) ∧ w'.cell? ⟨b, off + k * 5 + 2, none⟩ = some (.int .i64 x.eg) ∧ w'.cell? ⟨b, off + k * 5 + 3, none⟩ = some (.int .i64 x.exp) ∧ w'.cell? ⟨b, off + k * 5 + 4, none⟩ = some (.int .i64 x.mac)) (by kernel_rfl) (by kernel_rfl) (⟨Mk.drew1 _, k0, k1, j0, j1, j2, d0, d1, d2, d3, d4⟩) ?_
        change Wk _ _ _ _ 13 0 _
        first | (refine Wk.skip (m := 12) (k := 0) rfl (by rfl) ?_) | (refine Wk.step (m := 12) (k := 0) (v := _) rfl (by rfl) (fun wv hS => by obtain ⟨s0, s1, s2, s3, s4, s5, s6, s7, s8, s9, s10⟩ := hS; go_simp; try with_reducible rfl) ?_)
        try simp only [Act.put, List.getElem_toArray, List.getElem_cons_zero, List.setIfInBounds_toArray, List.set_cons_zero, List.set_cons_succ]
        first | (refine Wk.skip (m := 11) (k := 1) rfl (by rfl) ?_) | (refine Wk.step (m := 11) (k := 1) (v := _) rfl (by rfl) (fun wv hS => by obtain ⟨s0, s1, s2, s3, s4, s5, s6, s7, s8, s9, s10⟩ := hS; go_simp; try with_reducible rfl) ?_)
        try simp only [Act.put, List.getElem_toArray, List.getElem_cons_succ, List.getElem_cons_zero, List.setIfInBounds_toArray, List.set_cons_zero, List.set_cons_succ]
        first | (refine Wk.skip (m := 10) (k := 2) rfl (by rfl) ?_) | (refine Wk.step (m := 10) (k := 2) (v := _) rfl (by rfl) (fun wv hS => by obtain ⟨s0, s1, s2, s3, s4, s5, s6, s7, s8, s9, s10⟩ := hS; go_simp; try with_reducible rfl) ?_)
        try simp only [Act.put, List.getElem_toArray, List.getElem_cons_succ, List.getElem_cons_zero, List.setIfInBounds_toArray, List.set_cons_zero, List.set_cons_succ]
        first | (refine Wk.skip (m := 9) (k := 3) rfl (by rfl) ?_) | (refine Wk.step (m := 9) (k := 3) (v := _) rfl (by rfl) (fun wv hS => by obtain ⟨s0, s1, s2, s3, s4, s5, s6, s7, s8, s9, s10⟩ := hS; go_simp; try with_reducible rfl) ?_)
        try simp only [Act.put, List.getElem_toArray, List.getElem_cons_succ, List.getElem_cons_zero, List.setIfInBounds_toArray, List.set_cons_zero, List.set_cons_succ]
        first | (refine Wk.skip (m := 8) (k := 4) rfl (by rfl) ?_) | (refine Wk.step (m := 8) (k := 4) (v := _) rfl (by rfl) (fun wv hS => by obtain ⟨s0, s1, s2, s3, s4, s5, s6, s7, s8, s9, s10⟩ := hS; go_simp; try with_reducible rfl) ?_)
        try simp only [Act.put, List.getElem_toArray, List.getElem_cons_succ, List.getElem_cons_zero, List.setIfInBounds_toArray, List.set_cons_zero, List.set_cons_succ]
        refine Wk.call (m := 7) (k := 5) (v := .int .i64 β) _ _ rfl (by rfl) (fun wv hS => by obtain ⟨s0, s1, s2, s3, s4, s5, s6, s7, s8, s9, s10⟩ := hS; go_simp; first | done | exact ⟨rfl, rfl⟩ | with_reducible rfl) (fun wv hS => ?_) ?_; · obtain ⟨s0, s1, s2, s3, s4, s5, s6, s7, s8, s9, s10⟩ := hS; refine (specBetaAt x0 x1 _ n c B' hs (k : Int) wv (h.mk (hM'.trans s0) hB' (.inr (Nat.le_refl _))) (Nat.le_trans hB' (hM'.trans s0).size) hn).mono ?_; rintro e w' ⟨he, mm⟩; exact ⟨by rw [he, HBE.out], ⟨s0.trans mm, mm.cellAt s1, mm.cellAt s2, mm.cellAt s3, mm.cellAt s4, mm.cellAt s5, mm.cellAt s6, mm.cellAt s7, mm.cellAt s8, mm.cellAt s9, mm.cellAt s10⟩⟩
        try simp only [Act.put, List.getElem_toArray, List.getElem_cons_succ, List.getElem_cons_zero, List.setIfInBounds_toArray, List.set_cons_zero, List.set_cons_succ]
        first | (refine Wk.skip (m := 6) (k := 6) rfl (by rfl) ?_) | (refine Wk.step (m := 6) (k := 6) (v := _) rfl (by rfl) (fun wv hS => by obtain ⟨s0, s1, s2, s3, s4, s5, s6, s7, s8, s9, s10⟩ := hS; go_simp; try with_reducible rfl) ?_)
        try simp only [Act.put, List.getElem_toArray, List.getElem_cons_succ, List.getElem_cons_zero, List.setIfInBounds_toArray, List.set_cons_zero, List.set_cons_succ]
        first | (refine Wk.skip (m := 5) (k := 7) rfl (by rfl) ?_) | (refine Wk.step (m := 5) (k := 7) (v := _) rfl (by rfl) (fun wv hS => by obtain ⟨s0, s1, s2, s3, s4, s5, s6, s7, s8, s9, s10⟩ := hS; go_simp; try with_reducible rfl) ?_)
        try simp only [Act.put, List.getElem_toArray, List.getElem_cons_succ, List.getElem_cons_zero, List.setIfInBounds_toArray, List.set_cons_zero, List.set_cons_succ]
        first | (refine Wk.skip (m := 4) (k := 8) rfl (by rfl) ?_) | (refine Wk.step (m := 4) (k := 8) (v := _) rfl (by rfl) (fun wv hS => by obtain ⟨s0, s1, s2, s3, s4, s5, s6, s7, s8, s9, s10⟩ := hS; go_simp; try with_reducible rfl) ?_)
        try simp only [Act.put, List.getElem_toArray, List.getElem_cons_succ, List.getElem_cons_zero, List.setIfInBounds_toArray, List.set_cons_zero, List.set_cons_succ]
        first | (refine Wk.skip (m := 3) (k := 9) rfl (by rfl) ?_) | (refine Wk.step (m := 3) (k := 9) (v := _) rfl (by rfl) (fun wv hS => by obtain ⟨s0, s1, s2, s3, s4, s5, s6, s7, s8, s9, s10⟩ := hS; go_simp; try with_reducible rfl) ?_)
        try simp only [Act.put, List.getElem_toArray, List.getElem_cons_succ, List.getElem_cons_zero, List.setIfInBounds_toArray, List.set_cons_zero, List.set_cons_succ]
        first | (refine Wk.skip (m := 2) (k := 10) rfl (by rfl) ?_) | (refine Wk.step (m := 2) (k := 10) (v := _) rfl (by rfl) (fun wv hS => by obtain ⟨s0, s1, s2, s3, s4, s5, s6, s7, s8, s9, s10⟩ := hS; go_simp; try with_reducible rfl) ?_)
        try simp only [Act.put, List.getElem_toArray, List.getElem_cons_succ, List.getElem_cons_zero, List.setIfInBounds_toArray, List.set_cons_zero, List.set_cons_succ]
        refine Wk.call (m := 1) (k := 11) (v := .bool false) _ _ rfl (by rfl) (fun wv hS => by obtain ⟨s0, s1, s2, s3, s4, s5, s6, s7, s8, s9, s10⟩ := hS; go_simp; first | done | exact ⟨rfl, rfl⟩ | with_reducible rfl) (fun wv hS => ?_) ?_; · obtain ⟨s0, s1, s2, s3, s4, s5, s6, s7, s8, s9, s10⟩ := hS; refine (specVerify a0 a1 n0 c0 n1 c1 B zA x0 β x.nd x.ing x.eg x.exp x.mac wv (hA.mk (hM'.trans s0) hB (.inr (Nat.le_refl _))) (Nat.le_trans hB (hM'.trans s0).size) hn0 HZ.out HXF.out).mono ?_; rintro e w' ⟨he, mm⟩; exact ⟨by rw [he, HV.out], ⟨s0.trans mm, mm.cellAt s1, mm.cellAt s2, mm.cellAt s3, mm.cellAt s4, mm.cellAt s5, mm.cellAt s6, mm.cellAt s7, mm.cellAt s8, mm.cellAt s9, mm.cellAt s10⟩⟩
        try simp only [Act.put, List.getElem_toArray, List.getElem_cons_succ, List.getElem_cons_zero, List.setIfInBounds_toArray, List.set_cons_zero, List.set_cons_succ]
        first | (refine Wk.skip (m := 0) (k := 12) rfl (by rfl) ?_) | (refine Wk.step (m := 0) (k := 12) (v := _) rfl (by rfl) (fun wv hS => by obtain ⟨s0, s1, s2, s3, s4, s5, s6, s7, s8, s9, s10⟩ := hS; go_simp; try with_reducible rfl) ?_)
        try simp only [Act.put, List.getElem_toArray, List.getElem_cons_succ, List.getElem_cons_zero, List.setIfInBounds_toArray, List.set_cons_zero, List.set_cons_succ]
        refine Wk.done fun wE hE => ?_
        clear k0 k1 j0 j1 j2 d0 d1 d2 d3 d4
        obtain ⟨mE, k0, k1, j0, j1, j2, d0, d1, d2, d3, d4⟩ := hE
        go_wp2_with fail
        go_ret
        exact ⟨retI HE.out.symm, hM'.trans mE⟩
      · rw [hv] at HV hV
        have HV2 := Lib.hid hV.out.symm
        have HE := Lib.hid (show fiV zA n0 x0 x1 hs n = fiN (badH zA n0 x0 x1 hs) n (n - (k + 1)) by rw [hS.out]; exact fiN_go hlt (by unfold badH; rw [HV2.out]; rfl))
        clear hv hV
        go_wp2_with fail
        refine wp_region_wk (fun w' => Mk0 wr w' ∧ w'.cell? ⟨w.heap.size, 0, none⟩ = some (.slice a0 n0 c0) ∧ w'.cell? ⟨w.heap.size, 1, none⟩ = some (.slice a1 n1 c1) ∧ w'.cell? ⟨w.heap.size + 1, 0, none⟩ = some (.int .i64 x0) ∧ w'.cell? ⟨w.heap.size + 1, 1, none⟩ = some (.int .i64 x1) ∧ w'.cell? ⟨w.heap.size + 1, 2, none⟩ = some (.slice (some ⟨b, off, none⟩) n c) ∧ w'.cell? ⟨b, off + k * 5, none⟩ = some (.int .i64 x.nd) ∧ w'.cell? ⟨b, off + k * 5 + 1, none⟩ = some (.int .i64 x.ing) ∧ w'.cell? ⟨b, off + k * 5 + 2, none⟩ = some (.int .i64 x.eg) ∧ w'.cell? ⟨b, off + k * 5 + 3, none⟩ = some (.int .i64 x.exp) ∧ w'.cell? ⟨b, off + k * 5 + 4, none⟩ = some (.int .i64 x.mac)) (by kernel_rfl) (by kernel_rfl) (⟨Mk.drew1 _, k0, k1, j0, j1, j2, d0, d1, d2, d3, d4⟩) ?_
        change Wk _ _ _ _ 13 0 _
        first | (refine Wk.skip (m := 12) (k := 0) rfl (by rfl) ?_) | (refine Wk.step (m := 12) (k := 0) (v := _) rfl (by rfl) (fun wv hS => by obtain ⟨s0, s1, s2, s3, s4, s5, s6, s7, s8, s9, s10⟩ := hS; go_simp; try with_reducible rfl) ?_)
        try simp only [Act.put, List.getElem_toArray, List.getElem_cons_zero, List.setIfInBounds_toArray, List.set_cons_zero, List.set_cons_succ]
        first | (refine Wk.skip (m := 11) (k := 1) rfl (by rfl) ?_) | (refine Wk.step (m := 11) (k := 1) (v := _) rfl (by rfl) (fun wv hS => by obtain ⟨s0, s1, s2, s3, s4, s5, s6, s7, s8, s9, s10⟩ := hS; go_simp; try with_reducible rfl) ?_)
        try simp only [Act.put, List.getElem_toArray, List.getElem_cons_succ, List.getElem_cons_zero, List.setIfInBounds_toArray, List.set_cons_zero, List.set_cons_succ]
        first | (refine Wk.skip (m := 10) (k := 2) rfl (by rfl) ?_) | (refine Wk.step (m := 10) (k := 2) (v := _) rfl (by rfl) (fun wv hS => by obtain ⟨s0, s1, s2, s3, s4, s5, s6, s7, s8, s9, s10⟩ := hS; go_simp; try with_reducible rfl) ?_)
        try simp only [Act.put, List.getElem_toArray, List.getElem_cons_succ, List.getElem_cons_zero, List.setIfInBounds_toArray, List.set_cons_zero, List.set_cons_succ]
        first | (refine Wk.skip (m := 9) (k := 3) rfl (by rfl) ?_) | (refine Wk.step (m := 9) (k := 3) (v := _) rfl (by rfl) (fun wv hS => by obtain ⟨s0, s1, s2, s3, s4, s5, s6, s7, s8, s9, s10⟩ := hS; go_simp; try with_reducible rfl) ?_)
        try simp only [Act.put, List.getElem_toArray, List.getElem_cons_succ, List.getElem_cons_zero, List.setIfInBounds_toArray, List.set_cons_zero, List.set_cons_succ]
        first | (refine Wk.skip (m := 8) (k := 4) rfl (by rfl) ?_) | (refine Wk.step (m := 8) (k := 4) (v := _) rfl (by rfl) (fun wv hS => by obtain ⟨s0, s1, s2, s3, s4, s5, s6, s7, s8, s9, s10⟩ := hS; go_simp; try with_reducible rfl) ?_)
        try simp only [Act.put, List.getElem_toArray, List.getElem_cons_succ, List.getElem_cons_zero, List.setIfInBounds_toArray, List.set_cons_zero, List.set_cons_succ]
        refine Wk.call (m := 7) (k := 5) (v := .int .i64 β) _ _ rfl (by rfl) (fun wv hS => by obtain ⟨s0, s1, s2, s3, s4, s5, s6, s7, s8, s9, s10⟩ := hS; go_simp; first | done | exact ⟨rfl, rfl⟩ | with_reducible rfl) (fun wv hS => ?_) ?_; · obtain ⟨s0, s1, s2, s3, s4, s5, s6, s7, s8, s9, s10⟩ := hS; refine (specBetaAt x0 x1 _ n c B' hs (k : Int) wv (h.mk (hM'.trans s0) hB' (.inr (Nat.le_refl _))) (Nat.le_trans hB' (hM'.trans s0).size) hn).mono ?_; rintro e w' ⟨he, mm⟩; exact ⟨by rw [he, HBE.out], ⟨s0.trans mm, mm.cellAt s1, mm.cellAt s2, mm.cellAt s3, mm.cellAt s4, mm.cellAt s5, mm.cellAt s6, mm.cellAt s7, mm.cellAt s8, mm.cellAt s9, mm.cellAt s10⟩⟩
        try simp only [Act.put, List.getElem_toArray, List.getElem_cons_succ, List.getElem_cons_zero, List.setIfInBounds_toArray, List.set_cons_zero, List.set_cons_succ]
        first | (refine Wk.skip (m := 6) (k := 6) rfl (by rfl) ?_) | (refine Wk.step (m := 6) (k := 6) (v := _) rfl (by rfl) (fun wv hS => by obtain ⟨s0, s1, s2, s3, s4, s5, s6, s7, s8, s9, s10⟩ := hS; go_simp; try with_reducible rfl) ?_)
        try simp only [Act.put, List.getElem_toArray, List.getElem_cons_succ, List.getElem_cons_zero, List.setIfInBounds_toArray, List.set_cons_zero, List.set_cons_succ]
        first | (refine Wk.skip (m := 5) (k := 7) rfl (by rfl) ?_) | (refine Wk.step (m := 5) (k := 7) (v := _) rfl (by rfl) (fun wv hS => by obtain ⟨s0, s1, s2, s3, s4, s5, s6, s7, s8, s9, s10⟩ := hS; go_simp; try with_reducible rfl) ?_)
        try simp only [Act.put, List.getElem_toArray, List.getElem_cons_succ, List.getElem_cons_zero, List.setIfInBounds_toArray, List.set_cons_zero, List.set_cons_succ]
        first | (refine Wk.skip (m := 4) (k := 8) rfl (by rfl) ?_) | (refine Wk.step (m := 4) (k := 8) (v := _) rfl (by rfl) (fun wv hS => by obtain ⟨s0, s1, s2, s3, s4, s5, s6, s7, s8, s9, s10⟩ := hS; go_simp; try with_reducible rfl) ?_)
        try simp only [Act.put, List.getElem_toArray, List.getElem_cons_succ, List.getElem_cons_zero, List.setIfInBounds_toArray, List.set_cons_zero, List.set_cons_succ]
        first | (refine Wk.skip (m := 3) (k := 9) rfl (by rfl) ?_) | (refine Wk.step (m := 3) (k := 9) (v := _) rfl (by rfl) (fun wv hS => by obtain ⟨s0, s1, s2, s3, s4, s5, s6, s7, s8, s9, s10⟩ := hS; go_simp; try with_reducible rfl) ?_)
        try simp only [Act.put, List.getElem_toArray, List.getElem_cons_succ, List.getElem_cons_zero, List.setIfInBounds_toArray, List.set_cons_zero, List.set_cons_succ]
        first | (refine Wk.skip (m := 2) (k := 10) rfl (by rfl) ?_) | (refine Wk.step (m := 2) (k := 10) (v := _) rfl (by rfl) (fun wv hS => by obtain ⟨s0, s1, s2, s3, s4, s5, s6, s7, s8, s9, s10⟩ := hS; go_simp; try with_reducible rfl) ?_)
        try simp only [Act.put, List.getElem_toArray, List.getElem_cons_succ, List.getElem_cons_zero, List.setIfInBounds_toArray, List.set_cons_zero, List.set_cons_succ]
        refine Wk.call (m := 1) (k := 11) (v := .bool true) _ _ rfl (by rfl) (fun wv hS => by obtain ⟨s0, s1, s2, s3, s4, s5, s6, s7, s8, s9, s10⟩ := hS; go_simp; first | done | exact ⟨rfl, rfl⟩ | with_reducible rfl) (fun wv hS => ?_) ?_; · obtain ⟨s0, s1, s2, s3, s4, s5, s6, s7, s8, s9, s10⟩ := hS; refine (specVerify a0 a1 n0 c0 n1 c1 B zA x0 β x.nd x.ing x.eg x.exp x.mac wv (hA.mk (hM'.trans s0) hB (.inr (Nat.le_refl _))) (Nat.le_trans hB (hM'.trans s0).size) hn0 HZ.out HXF.out).mono ?_; rintro e w' ⟨he, mm⟩; exact ⟨by rw [he, HV.out], ⟨s0.trans mm, mm.cellAt s1, mm.cellAt s2, mm.cellAt s3, mm.cellAt s4, mm.cellAt s5, mm.cellAt s6, mm.cellAt s7, mm.cellAt s8, mm.cellAt s9, mm.cellAt s10⟩⟩
        try simp only [Act.put, List.getElem_toArray, List.getElem_cons_succ, List.getElem_cons_zero, List.setIfInBounds_toArray, List.set_cons_zero, List.set_cons_succ]
        first | (refine Wk.skip (m := 0) (k := 12) rfl (by rfl) ?_) | (refine Wk.step (m := 0) (k := 12) (v := _) rfl (by rfl) (fun wv hS => by obtain ⟨s0, s1, s2, s3, s4, s5, s6, s7, s8, s9, s10⟩ := hS; go_simp; try with_reducible rfl) ?_)
        try simp only [Act.put, List.getElem_toArray, List.getElem_cons_succ, List.getElem_cons_zero, List.setIfInBounds_toArray, List.set_cons_zero, List.set_cons_succ]
        refine Wk.done fun wE hE => ?_
        clear k0 k1 j0 j1 j2 d0 d1 d2 d3 d4
        obtain ⟨mE, k0, k1, j0, j1, j2, d0, d1, d2, d3, d4⟩ := hE
        go_wp2_with fail
        go_roundw
        case rel => exact ⟨rfl, k + 1, by omega, by go_num, HE.out, hM.trans mE⟩
        case measure => simp [intOf]; omega
    · obtain rfl : k = n := by omega
      go_wp2_with fail
      go_ret
      exact ⟨retI (by rw [hS.out, Nat.sub_self]; rfl), hM'⟩

end Go.Proofs.YtefjbnbibmiccaaDoor
