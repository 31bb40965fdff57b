
/- FirstBadSignature of both sides. -/
import Derived.Test.YtiphndgmgpiodaaSds
import Derived.Test.YtiphndgmgpiodaaSignAsL
import Derived.Test.YtiphndgmgpiodaaIntR
import Derived.Test.YtiphndgmgpiodaaWs
namespace Go.Proofs.Ytiphndgmgpiodaa
open Go.ChangeShapes Go.WideShapes Go.ChangeAt Go.RowKit
set_option linter.unusedVariables false
/-- The first of n numbers that meets p, else -1. -/
def fbN (p : Nat → Bool) (n : Nat) : Nat → Int
  | 0 => -1
  | m + 1 => if p (n - (m + 1)) = true then ((n - (m + 1) : Nat) : Int) else fbN p n m
theorem fbN_stop {p : Nat → Bool} {n k : Nat} (hk : k < n) (h : p k = true) : fbN p n (n - k) = (k : Int) := by
  obtain ⟨m, hm⟩ : ∃ m, n - k = m + 1 := ⟨n - k - 1, by omega⟩
  rw [hm, fbN, show n - (m + 1) = k by omega, if_pos h]
theorem fbN_go {p : Nat → Bool} {n k : Nat} (hk : k < n) (h : p k = false) : fbN p n (n - k) = fbN p n (n - (k + 1)) := by
  obtain ⟨m, hm⟩ : ∃ m, n - k = m + 1 := ⟨n - k - 1, by omega⟩
  rw [hm, fbN, show n - (m + 1) = k by omega, if_neg (by rw [h]; decide), show n - (k + 1) = m by omega]
theorem i64_to {a : Int} (h0 : -9223372036854775808 ≤ a) (h1 : a ≤ 9223372036854775807) : (Lit.int .i64 a).wf = true := by
  have e1 : IntKind.i64.min = -9223372036854775808 := by decide
  have e2 : IntKind.i64.max = 9223372036854775807 := by decide
  simp only [Lit.wf, Bool.and_eq_true, decide_eq_true_eq]
  rw [e1, e2]
  exact ⟨h0, h1⟩
def badS (zs : List TAS) (n0 : Nat) (x0 x1 : Int) (hs : List THop) (n : Nat) (gs : List Int) (n3 k : Nat) : Bool := decide (n3 ≤ k) || !(verB zs n0 (sdataV x0 x1 hs n ((k : Int) + 1)) ⟨(hs.getD k default).nd, gs.getD k 0⟩)
def fbV (zs : List TAS) (n0 : Nat) (x0 x1 : Int) (hs : List THop) (n : Nat) (gs : List Int) (n3 : Nat) : Int := fbN (badS zs n0 x0 x1 hs n gs n3) n n
theorem hop_in {l : List THop} {k : Nat} (h : k < l.length) : l.getD k default ∈ l := by
  rw [List.getD_eq_getElem?_getD, List.getElem?_eq_getElem h]
  exact List.getElem_mem _
theorem hopsN_fits {hs : List THop} (hf : ∀ y ∈ hs, THop.fits y) : ∀ k, k ≤ hs.length → ∀ z ∈ hopsN hs k, (Lit.int .i64 z).wf = true
  | 0, _, z, hz => by cases hz
  | k + 1, hk, z, hz => by
    have hy := hf _ (hop_in (l := hs) (k := k) (by omega))
    rw [hopsN, List.mem_append] at hz
    rcases hz with hz | hz
    · exact hopsN_fits hf k (by omega) z hz
    · simp only [hopF, List.mem_cons, List.not_mem_nil, or_false] at hz
      rcases hz with rfl | rfl | rfl | rfl | rfl
      · exact hy.1
      · exact hy.2.1
      · exact hy.2.2.1
      · exact hy.2.2.2.1
      · exact hy.2.2.2.2
theorem sdata_fits {x0 x1 : Int} {hs : List THop} {n k : Nat} (h : k < n) (hl : hs.length = n) (hn : n ≤ 1048576) (h0 : (Lit.int .i64 x0).wf = true) (h1 : (Lit.int .i64 x1).wf = true) (hf : ∀ y ∈ hs, THop.fits y) : ∀ z ∈ sdataV x0 x1 hs n ((k : Int) + 1), (Lit.int .i64 z).wf = true := by
  rw [show (k : Int) + 1 = ((k + 1 : Nat) : Int) by omega, sdata_in (by omega)]
  intro z hz
  simp only [sdL, List.mem_append, List.mem_cons, List.not_mem_nil, or_false] at hz
  rcases hz with (rfl | rfl | rfl) | hz
  · exact h0
  · exact h1
  · exact i64_to (by omega) (by omega)
  · exact hopsN_fits hf (k + 1) (by omega) z hz
set_option maxRecDepth 100000 in
set_option maxHeartbeats 40000000 in
theorem specFbad (a0 a1 : Option Addr) (n0 c0 n1 c1 B : Nat) (zs : List TAS) (x0 x1 : Int) (a a3 : Option Addr) (n c n3 c3 B' : Nat) (hs : List THop) (gs : List Int) (w : World) (hA : HasAS w B a0 n0 zs) (hB : B ≤ w.heap.size) (hn0 : n0 ≤ 1048576) (h : HasHop w B' a n hs) (hB' : B' ≤ w.heap.size) (hn : n ≤ 1048576) (hg : HasInt w B' a3 n3 gs) (hn3 : n3 ≤ 1048576) (hc : n ≤ c) (hz : ∀ y ∈ zs, TAS.fits y) (hx0 : (Lit.int .i64 x0).wf = true) (hx1 : (Lit.int .i64 x1).wf = true) (hf : ∀ y ∈ hs, THop.fits y) :
    Calls Try.prog 24 #[.agg #[.slice a0 n0 c0, .slice a1 n1 c1], .agg #[.int .i64 x0, .int .i64 x1, .slice a n c, .slice a3 n3 c3]] w fun e w' => e = .returned (.int .i64 (fbV zs n0 x0 x1 hs n gs n3)) ∧ Mk0 w w' := by
  have M0 := (Mk.alloc w (Obj.cells #[Value.slice a0 n0 c0, Value.slice a1 n1 c1] 55)).new (Obj.cells #[Value.int .i64 x0, Value.int .i64 x1, Value.slice a n c, Value.slice a3 n3 c3] 58)
  have k0 : ((w.alloc (Obj.cells #[Value.slice a0 n0 c0, Value.slice a1 n1 c1] 55)).alloc (Obj.cells #[Value.int .i64 x0, Value.int .i64 x1, Value.slice a n c, Value.slice a3 n3 c3] 58)).cell? ⟨w.heap.size, 0, none⟩ = some (.slice a0 n0 c0) := by simp [go_sem]
  have k1 : ((w.alloc (Obj.cells #[Value.slice a0 n0 c0, Value.slice a1 n1 c1] 55)).alloc (Obj.cells #[Value.int .i64 x0, Value.int .i64 x1, Value.slice a n c, Value.slice a3 n3 c3] 58)).cell? ⟨w.heap.size, 1, none⟩ = some (.slice a1 n1 c1) := by simp [go_sem]
  have u0 : ((w.alloc (Obj.cells #[Value.slice a0 n0 c0, Value.slice a1 n1 c1] 55)).alloc (Obj.cells #[Value.int .i64 x0, Value.int .i64 x1, Value.slice a n c, Value.slice a3 n3 c3] 58)).cell? ⟨w.heap.size + 1, 0, none⟩ = some (.int .i64 x0) := by simp [go_sem]
  have u1 : ((w.alloc (Obj.cells #[Value.slice a0 n0 c0, Value.slice a1 n1 c1] 55)).alloc (Obj.cells #[Value.int .i64 x0, Value.int .i64 x1, Value.slice a n c, Value.slice a3 n3 c3] 58)).cell? ⟨w.heap.size + 1, 1, none⟩ = some (.int .i64 x1) := by simp [go_sem]
  have u2 : ((w.alloc (Obj.cells #[Value.slice a0 n0 c0, Value.slice a1 n1 c1] 55)).alloc (Obj.cells #[Value.int .i64 x0, Value.int .i64 x1, Value.slice a n c, Value.slice a3 n3 c3] 58)).cell? ⟨w.heap.size + 1, 2, none⟩ = some (.slice a n c) := by simp [go_sem]
  have u3 : ((w.alloc (Obj.cells #[Value.slice a0 n0 c0, Value.slice a1 n1 c1] 55)).alloc (Obj.cells #[Value.int .i64 x0, Value.int .i64 x1, Value.slice a n c, Value.slice a3 n3 c3] 58)).cell? ⟨w.heap.size + 1, 3, none⟩ = some (.slice a3 n3 c3) := by simp [go_sem]
  have HZ := Lib.hid hz
  have HC := Lib.hid hc
  have HSF := Lib.hid (fun (k : Nat) (hk : k < n) => sdata_fits (x0 := x0) (x1 := x1) hk h.1 hn hx0 hx1 hf)
  clear hz hc hx0 hx1 hf
  go_enter Try.func24, Try.ntmps24
  go_wp2_with fail
  have hsW : ((w.alloc (Obj.cells #[Value.slice a0 n0 c0, Value.slice a1 n1 c1] 55)).alloc (Obj.cells #[Value.int .i64 x0, Value.int .i64 x1, Value.slice a n c, Value.slice a3 n3 c3] 58)).heap.size = w.heap.size + 1 + 1 := by simp only [World.size_alloc]
  generalize ((w.alloc (Obj.cells #[Value.slice a0 n0 c0, Value.slice a1 n1 c1] 55)).alloc (Obj.cells #[Value.int .i64 x0, Value.int .i64 x1, Value.slice a n c, Value.slice a3 n3 c3] 58)) = WW at *
  go_loopw [4, 5] (fun r i wr => r = .int .i64 0 ∧ ∃ k : Nat, k ≤ n ∧ i = .int .i64 k ∧ Hid (fbV zs n0 x0 x1 hs n gs n3 = fbN (badS zs n0 x0 x1 hs n gs n3) n (n - k)) ∧ Mk0 WW wr) (fun _ i _ => n - (intOf i).toNat)
  case atStart => exact ⟨rfl, 0, Nat.zero_le _, rfl, rfl, Mk.refl _ _ _⟩
  case round =>
    obtain ⟨rfl, k, hk, rfl, hS, hM⟩ := hrel
    replace k0 := hM.cellAt k0
    replace k1 := hM.cellAt k1
    replace u0 := hM.cellAt u0
    replace u1 := hM.cellAt u1
    replace u2 := hM.cellAt u2
    replace u3 := hM.cellAt u3
    have hMW := M0.trans hM
    by_cases hlt : k < n
    · obtain ⟨b, off, x, rfl, hb, hx, d0, d1, d2, d3, d4⟩ := HasHop.at _ _ _ _ _ _ (h.mk hMW hB' (.inr (Nat.le_refl _))) hlt
      have hbr := World.block_lt_of_cell? _ _ d0
      have hbk := World.block_lt_of_cell? _ _ k0
      have hbu := World.block_lt_of_cell? _ _ u0
      simp only at hbr hbk hbu
      have i1 : (0 : Int) ≤ (k : Int) := by omega
      have i2 : (k : Int) < (n : Int) := by omega
      by_cases hq : n3 ≤ k
      · have HE := Lib.hid (show fbV zs n0 x0 x1 hs n gs n3 = (k : Int) by rw [hS.out]; exact fbN_stop hlt (by unfold badS; rw [decide_eq_true hq]; rfl))
        have q1 : decide ((n3 : Int) ≤ (k : Int)) = true := decide_eq_true (by omega)
        have q2 : decide (n3 ≤ k) = true := decide_eq_true hq
        go_wp2_with fail
        refine wp_region_wk (fun w' => Mk0 wr w' ∧ w'.cell? ⟨w.heap.size, 0, none⟩ = some (.slice a0 n0 c0) ∧ w'.cell? ⟨w.heap.size, 1, none⟩ = some (.slice a1 n1 c1) ∧ w'.cell? ⟨w.heap.size + 1, 0, none⟩ = some (.int .i64 x0) ∧ w'.cell? ⟨w.heap.size + 1, 1, none⟩ = some (.int .i64 x1) ∧ w'.cell? ⟨w.heap.size + 1, 2, none⟩ = some (.slice (some ⟨b, off, none⟩) n c) ∧ w'.cell? ⟨w.heap.size + 1, 3, none⟩ = some (.slice a3 n3 c3) ∧ w'.cell? ⟨b, off + k * 5, none⟩ = some (.int .i64 x.nd)) (by kernel_rfl) (by kernel_rfl) (⟨Mk.drew1 _, k0, k1, u0, u1, u2, u3, d0⟩) ?_
        change Wk _ _ _ _ 28 0 _
        first | (refine Wk.skip (m := 27) (k := 0) rfl (by rfl) ?_) | (refine Wk.step (m := 27) (k := 0) (v := _) rfl (by rfl) (fun wv hS => by obtain ⟨s0, s1, s2, s3, s4, s5, s6, s7⟩ := hS; go_simp; try with_reducible rfl) ?_)
        try simp only [Act.put, List.getElem_toArray, List.getElem_cons_zero, List.setIfInBounds_toArray, List.set_cons_zero, List.set_cons_succ]
        first | (refine Wk.skip (m := 26) (k := 1) rfl (by rfl) ?_) | (refine Wk.step (m := 26) (k := 1) (v := _) rfl (by rfl) (fun wv hS => by obtain ⟨s0, s1, s2, s3, s4, s5, s6, s7⟩ := hS; go_simp; try with_reducible rfl) ?_)
        try simp only [Act.put, List.getElem_toArray, List.getElem_cons_succ, List.getElem_cons_zero, List.setIfInBounds_toArray, List.set_cons_zero, List.set_cons_succ]
        first | (refine Wk.skip (m := 25) (k := 2) rfl (by rfl) ?_) | (refine Wk.step (m := 25) (k := 2) (v := _) rfl (by rfl) (fun wv hS => by obtain ⟨s0, s1, s2, s3, s4, s5, s6, s7⟩ := hS; go_simp; try with_reducible rfl) ?_)
        try simp only [Act.put, List.getElem_toArray, List.getElem_cons_succ, List.getElem_cons_zero, List.setIfInBounds_toArray, List.set_cons_zero, List.set_cons_succ]
        first | (refine Wk.skip (m := 24) (k := 3) rfl (by rfl) ?_) | (refine Wk.step (m := 24) (k := 3) (v := _) rfl (by rfl) (fun wv hS => by obtain ⟨s0, s1, s2, s3, s4, s5, s6, s7⟩ := hS; go_simp; try with_reducible rfl) ?_)
        try simp only [Act.put, List.getElem_toArray, List.getElem_cons_succ, List.getElem_cons_zero, List.setIfInBounds_toArray, List.set_cons_zero, List.set_cons_succ]
        first | (refine Wk.skip (m := 23) (k := 4) rfl (by rfl) ?_) | (refine Wk.step (m := 23) (k := 4) (v := _) rfl (by rfl) (fun wv hS => by obtain ⟨s0, s1, s2, s3, s4, s5, s6, s7⟩ := hS; go_simp; try with_reducible rfl) ?_)
        try simp only [Act.put, List.getElem_toArray, List.getElem_cons_succ, List.getElem_cons_zero, List.setIfInBounds_toArray, List.set_cons_zero, List.set_cons_succ]
        first | (refine Wk.skip (m := 22) (k := 5) rfl (by rfl) ?_) | (refine Wk.step (m := 22) (k := 5) (v := _) rfl (by rfl) (fun wv hS => by obtain ⟨s0, s1, s2, s3, s4, s5, s6, s7⟩ := hS; go_simp; try with_reducible rfl) ?_)
        try simp only [Act.put, List.getElem_toArray, List.getElem_cons_succ, List.getElem_cons_zero, List.setIfInBounds_toArray, List.set_cons_zero, List.set_cons_succ]
        first | (refine Wk.skip (m := 21) (k := 6) rfl (by rfl) ?_) | (refine Wk.step (m := 21) (k := 6) (v := _) rfl (by rfl) (fun wv hS => by obtain ⟨s0, s1, s2, s3, s4, s5, s6, s7⟩ := hS; go_simp; try with_reducible rfl) ?_)
        try simp only [Act.put, List.getElem_toArray, List.getElem_cons_succ, List.getElem_cons_zero, List.setIfInBounds_toArray, List.set_cons_zero, List.set_cons_succ]
        first | (refine Wk.skip (m := 20) (k := 7) rfl (by rfl) ?_) | (refine Wk.step (m := 20) (k := 7) (v := _) rfl (by rfl) (fun wv hS => by obtain ⟨s0, s1, s2, s3, s4, s5, s6, s7⟩ := hS; go_simp; try with_reducible rfl) ?_)
        try simp only [Act.put, List.getElem_toArray, List.getElem_cons_succ, List.getElem_cons_zero, List.setIfInBounds_toArray, List.set_cons_zero, List.set_cons_succ]
        first | (refine Wk.skip (m := 19) (k := 8) rfl (by rfl) ?_) | (refine Wk.step (m := 19) (k := 8) (v := _) rfl (by rfl) (fun wv hS => by obtain ⟨s0, s1, s2, s3, s4, s5, s6, s7⟩ := hS; go_simp; try with_reducible rfl) ?_)
        try simp only [Act.put, List.getElem_toArray, List.getElem_cons_succ, List.getElem_cons_zero, List.setIfInBounds_toArray, List.set_cons_zero, List.set_cons_succ]
        first | (refine Wk.skip (m := 18) (k := 9) rfl (by rfl) ?_) | (refine Wk.step (m := 18) (k := 9) (v := _) rfl (by rfl) (fun wv hS => by obtain ⟨s0, s1, s2, s3, s4, s5, s6, s7⟩ := hS; go_simp; try with_reducible rfl) ?_)
        try simp only [Act.put, List.getElem_toArray, List.getElem_cons_succ, List.getElem_cons_zero, List.setIfInBounds_toArray, List.set_cons_zero, List.set_cons_succ]
        first | (refine Wk.skip (m := 17) (k := 10) rfl (by rfl) ?_) | (refine Wk.step (m := 17) (k := 10) (v := _) rfl (by rfl) (fun wv hS => by obtain ⟨s0, s1, s2, s3, s4, s5, s6, s7⟩ := hS; go_simp; try with_reducible rfl) ?_)
        try simp only [Act.put, List.getElem_toArray, List.getElem_cons_succ, List.getElem_cons_zero, List.setIfInBounds_toArray, List.set_cons_zero, List.set_cons_succ]
        first | (refine Wk.skip (m := 16) (k := 11) rfl (by rfl) ?_) | (refine Wk.step (m := 16) (k := 11) (v := _) rfl (by rfl) (fun wv hS => by obtain ⟨s0, s1, s2, s3, s4, s5, s6, s7⟩ := hS; go_simp; try with_reducible rfl) ?_)
        try simp only [Act.put, List.getElem_toArray, List.getElem_cons_succ, List.getElem_cons_zero, List.setIfInBounds_toArray, List.set_cons_zero, List.set_cons_succ]
        first | (refine Wk.skip (m := 15) (k := 12) rfl (by rfl) ?_) | (refine Wk.step (m := 15) (k := 12) (v := _) rfl (by rfl) (fun wv hS => by obtain ⟨s0, s1, s2, s3, s4, s5, s6, s7⟩ := hS; go_simp; try with_reducible rfl) ?_)
        try simp only [Act.put, List.getElem_toArray, List.getElem_cons_succ, List.getElem_cons_zero, List.setIfInBounds_toArray, List.set_cons_zero, List.set_cons_succ]
        first | (refine Wk.skip (m := 14) (k := 13) rfl (by rfl) ?_) | (refine Wk.step (m := 14) (k := 13) (v := _) rfl (by rfl) (fun wv hS => by obtain ⟨s0, s1, s2, s3, s4, s5, s6, s7⟩ := hS; go_simp; try with_reducible rfl) ?_)
        try simp only [Act.put, List.getElem_toArray, List.getElem_cons_succ, List.getElem_cons_zero, List.setIfInBounds_toArray, List.set_cons_zero, List.set_cons_succ]
        first | (refine Wk.skip (m := 13) (k := 14) rfl (by rfl) ?_) | (refine Wk.step (m := 13) (k := 14) (v := _) rfl (by rfl) (fun wv hS => by obtain ⟨s0, s1, s2, s3, s4, s5, s6, s7⟩ := hS; go_simp; try with_reducible rfl) ?_)
        try simp only [Act.put, List.getElem_toArray, List.getElem_cons_succ, List.getElem_cons_zero, List.setIfInBounds_toArray, List.set_cons_zero, List.set_cons_succ]
        first | (refine Wk.skip (m := 12) (k := 15) rfl (by rfl) ?_) | (refine Wk.step (m := 12) (k := 15) (v := _) rfl (by rfl) (fun wv hS => by obtain ⟨s0, s1, s2, s3, s4, s5, s6, s7⟩ := hS; go_simp; try with_reducible rfl) ?_)
        try simp only [Act.put, List.getElem_toArray, List.getElem_cons_succ, List.getElem_cons_zero, List.setIfInBounds_toArray, List.set_cons_zero, List.set_cons_succ]
        first | (refine Wk.skip (m := 11) (k := 16) rfl (by rfl) ?_) | (refine Wk.step (m := 11) (k := 16) (v := _) rfl (by rfl) (fun wv hS => by obtain ⟨s0, s1, s2, s3, s4, s5, s6, s7⟩ := hS; go_simp; try with_reducible rfl) ?_)
        try simp only [Act.put, List.getElem_toArray, List.getElem_cons_succ, List.getElem_cons_zero, List.setIfInBounds_toArray, List.set_cons_zero, List.set_cons_succ]
        first | (refine Wk.skip (m := 10) (k := 17) rfl (by rfl) ?_) | (refine Wk.step (m := 10) (k := 17) (v := _) rfl (by rfl) (fun wv hS => by obtain ⟨s0, s1, s2, s3, s4, s5, s6, s7⟩ := hS; go_simp; try with_reducible rfl) ?_)
        try simp only [Act.put, List.getElem_toArray, List.getElem_cons_succ, List.getElem_cons_zero, List.setIfInBounds_toArray, List.set_cons_zero, List.set_cons_succ]
        first | (refine Wk.skip (m := 9) (k := 18) rfl (by rfl) ?_) | (refine Wk.step (m := 9) (k := 18) (v := _) rfl (by rfl) (fun wv hS => by obtain ⟨s0, s1, s2, s3, s4, s5, s6, s7⟩ := hS; go_simp; try with_reducible rfl) ?_)
        try simp only [Act.put, List.getElem_toArray, List.getElem_cons_succ, List.getElem_cons_zero, List.setIfInBounds_toArray, List.set_cons_zero, List.set_cons_succ]
        first | (refine Wk.skip (m := 8) (k := 19) rfl (by rfl) ?_) | (refine Wk.step (m := 8) (k := 19) (v := _) rfl (by rfl) (fun wv hS => by obtain ⟨s0, s1, s2, s3, s4, s5, s6, s7⟩ := hS; go_simp; try with_reducible rfl) ?_)
        try simp only [Act.put, List.getElem_toArray, List.getElem_cons_succ, List.getElem_cons_zero, List.setIfInBounds_toArray, List.set_cons_zero, List.set_cons_succ]
        first | (refine Wk.skip (m := 7) (k := 20) rfl (by rfl) ?_) | (refine Wk.step (m := 7) (k := 20) (v := _) rfl (by rfl) (fun wv hS => by obtain ⟨s0, s1, s2, s3, s4, s5, s6, s7⟩ := hS; go_simp; try with_reducible rfl) ?_)
        try simp only [Act.put, List.getElem_toArray, List.getElem_cons_succ, List.getElem_cons_zero, List.setIfInBounds_toArray, List.set_cons_zero, List.set_cons_succ]
        first | (refine Wk.skip (m := 6) (k := 21) rfl (by rfl) ?_) | (refine Wk.step (m := 6) (k := 21) (v := _) rfl (by rfl) (fun wv hS => by obtain ⟨s0, s1, s2, s3, s4, s5, s6, s7⟩ := hS; go_simp; try with_reducible rfl) ?_)
        try simp only [Act.put, List.getElem_toArray, List.getElem_cons_succ, List.getElem_cons_zero, List.setIfInBounds_toArray, List.set_cons_zero, List.set_cons_succ]
        first | (refine Wk.skip (m := 5) (k := 22) rfl (by rfl) ?_) | (refine Wk.step (m := 5) (k := 22) (v := _) rfl (by rfl) (fun wv hS => by obtain ⟨s0, s1, s2, s3, s4, s5, s6, s7⟩ := hS; go_simp; try with_reducible rfl) ?_)
        try simp only [Act.put, List.getElem_toArray, List.getElem_cons_succ, List.getElem_cons_zero, List.setIfInBounds_toArray, List.set_cons_zero, List.set_cons_succ]
        first | (refine Wk.skip (m := 4) (k := 23) rfl (by rfl) ?_) | (refine Wk.step (m := 4) (k := 23) (v := _) rfl (by rfl) (fun wv hS => by obtain ⟨s0, s1, s2, s3, s4, s5, s6, s7⟩ := hS; go_simp; try with_reducible rfl) ?_)
        try simp only [Act.put, List.getElem_toArray, List.getElem_cons_succ, List.getElem_cons_zero, List.setIfInBounds_toArray, List.set_cons_zero, List.set_cons_succ]
        refine Wk.skip (m := 3) (k := 24) rfl (by rfl) ?_
        try simp only [Act.put, List.getElem_toArray, List.getElem_cons_succ, List.getElem_cons_zero, List.setIfInBounds_toArray, List.set_cons_zero, List.set_cons_succ]
        refine Wk.skip (m := 2) (k := 25) rfl (by rfl) ?_
        try simp only [Act.put, List.getElem_toArray, List.getElem_cons_succ, List.getElem_cons_zero, List.setIfInBounds_toArray, List.set_cons_zero, List.set_cons_succ]
        first | (refine Wk.skip (m := 1) (k := 26) rfl (by rfl) ?_) | (refine Wk.step (m := 1) (k := 26) (v := _) rfl (by rfl) (fun wv hS => by obtain ⟨s0, s1, s2, s3, s4, s5, s6, s7⟩ := hS; go_simp; try with_reducible rfl) ?_)
        try simp only [Act.put, List.getElem_toArray, List.getElem_cons_succ, List.getElem_cons_zero, List.setIfInBounds_toArray, List.set_cons_zero, List.set_cons_succ]
        first | (refine Wk.skip (m := 0) (k := 27) rfl (by rfl) ?_) | (refine Wk.step (m := 0) (k := 27) (v := _) rfl (by rfl) (fun wv hS => by obtain ⟨s0, s1, s2, s3, s4, s5, s6, s7⟩ := hS; go_simp; try with_reducible rfl) ?_)
        try simp only [Act.put, List.getElem_toArray, List.getElem_cons_succ, List.getElem_cons_zero, List.setIfInBounds_toArray, List.set_cons_zero, List.set_cons_succ]
        refine Wk.done fun wE hE => ?_
        clear k0 k1 u0 u1 u2 u3 d0
        obtain ⟨mE, k0, k1, u0, u1, u2, u3, d0⟩ := hE
        go_wp2_with fail
        go_ret
        exact ⟨retI HE.out.symm, hMW.trans mE⟩
      · replace hq : k < n3 := by omega
        have q1 : decide ((n3 : Int) ≤ (k : Int)) = false := decide_eq_false (by omega)
        have q2 : decide (n3 ≤ k) = false := decide_eq_false (by omega)
        have i3 : (k : Int) < (n3 : Int) := by omega
        obtain ⟨bg, og, g, rfl, hbg, hgx, cg⟩ := (hasR_int.1 (hg.mk hMW hB' (.inr (Nat.le_refl _)))).at_ hq
        have hbgr := World.block_lt_of_cell? _ _ cg
        simp only at hbgr
        have HV := Lib.hid (show badS zs n0 x0 x1 hs n gs n3 k = !(verB zs n0 (sdataV x0 x1 hs n ((k : Int) + 1)) ⟨x.nd, g⟩) by unfold badS; rw [q2, hx.out, hgx.out]; rfl)
        have HL := Lib.hid (sdata_dsz (x0 := x0) (x1 := x1) (hs := hs) hlt)
        have HDF := Lib.hid (HSF.out k hlt)
        have hds := dsz_le hlt hn
        have hdn : dsz k ≤ 8388608 := by omega
        clear hds
        obtain ⟨L, hL⟩ : ∃ L, Hid (L = sdataV x0 x1 hs n ((k : Int) + 1)) := ⟨_, Lib.hid rfl⟩
        rw [← hL.out] at HV HL HDF
        cases hv : verB zs n0 L ⟨x.nd, g⟩
        · have HVV := Lib.hid hv
          clear hv
          have HE := Lib.hid (show fbV zs n0 x0 x1 hs n gs n3 = (k : Int) by rw [hS.out]; exact fbN_stop hlt (by rw [HV.out, HVV.out]; rfl))
          go_wp2_with fail
          have hwk : IntKind.i64.wrap ((k : Int) + 1) = (k : Int) + 1 := by rw [IntKind.wrap_i64]; omega
          refine wp_region_wks (fun w' => Mk0 wr w' ∧ w'.cell? ⟨w.heap.size, 0, none⟩ = some (.slice a0 n0 c0) ∧ w'.cell? ⟨w.heap.size, 1, none⟩ = some (.slice a1 n1 c1) ∧ w'.cell? ⟨w.heap.size + 1, 0, none⟩ = some (.int .i64 x0) ∧ w'.cell? ⟨w.heap.size + 1, 1, none⟩ = some (.int .i64 x1) ∧ w'.cell? ⟨w.heap.size + 1, 2, none⟩ = some (.slice (some ⟨b, off, none⟩) n c) ∧ w'.cell? ⟨w.heap.size + 1, 3, none⟩ = some (.slice (some ⟨bg, og, none⟩) n3 c3) ∧ w'.cell? ⟨b, off + k * 5, none⟩ = some (.int .i64 x.nd) ∧ w'.cell? ⟨bg, og + k, none⟩ = some (.int .i64 g)) 24 26 (by kernel_rfl) (by kernel_rfl) (by kernel_rfl) (by decide) (by decide) (⟨Mk.drew1 _, k0, k1, u0, u1, u2, u3, d0, cg⟩) ?_
          change WkS _ _ _ _ _ _ 24 0 _
          first | (refine WkS.skip (m := 23) (k := 0) rfl (by rfl) ?_) | (refine WkS.pure (m := 23) (k := 0) (v := _) rfl (by rfl) (fun wv => by go_simp; try with_reducible rfl) ?_) | (refine WkS.step (m := 23) (k := 0) (v := _) rfl (by rfl) (by kernel_rfl) (fun wv hS => by obtain ⟨s0, s1, s2, s3, s4, s5, s6, s7, s8⟩ := hS; go_simp; try with_reducible rfl) ?_)
          try simp only [Act.put, List.getElem_toArray, List.getElem_cons_zero, List.setIfInBounds_toArray, List.set_cons_zero, List.set_cons_succ]
          first | (refine WkS.skip (m := 22) (k := 1) rfl (by rfl) ?_) | (refine WkS.pure (m := 22) (k := 1) (v := _) rfl (by rfl) (fun wv => by go_simp; try with_reducible rfl) ?_) | (refine WkS.step (m := 22) (k := 1) (v := _) rfl (by rfl) (by kernel_rfl) (fun wv hS => by obtain ⟨s0, s1, s2, s3, s4, s5, s6, s7, s8⟩ := hS; go_simp; try with_reducible rfl) ?_)
          try simp only [Act.put, List.getElem_toArray, List.getElem_cons_succ, List.getElem_cons_zero, List.setIfInBounds_toArray, List.set_cons_zero, List.set_cons_succ]
          first | (refine WkS.skip (m := 21) (k := 2) rfl (by rfl) ?_) | (refine WkS.pure (m := 21) (k := 2) (v := _) rfl (by rfl) (fun wv => by go_simp; try with_reducible rfl) ?_) | (refine WkS.step (m := 21) (k := 2) (v := _) rfl (by rfl) (by kernel_rfl) (fun wv hS => by obtain ⟨s0, s1, s2, s3, s4, s5, s6, s7, s8⟩ := hS; go_simp; try with_reducible rfl) ?_)
          try simp only [Act.put, List.getElem_toArray, List.getElem_cons_succ, List.getElem_cons_zero, List.setIfInBounds_toArray, List.set_cons_zero, List.set_cons_succ]
          first | (refine WkS.skip (m := 20) (k := 3) rfl (by rfl) ?_) | (refine WkS.pure (m := 20) (k := 3) (v := _) rfl (by rfl) (fun wv => by go_simp; try with_reducible rfl) ?_) | (refine WkS.step (m := 20) (k := 3) (v := _) rfl (by rfl) (by kernel_rfl) (fun wv hS => by obtain ⟨s0, s1, s2, s3, s4, s5, s6, s7, s8⟩ := hS; go_simp; try with_reducible rfl) ?_)
          try simp only [Act.put, List.getElem_toArray, List.getElem_cons_succ, List.getElem_cons_zero, List.setIfInBounds_toArray, List.set_cons_zero, List.set_cons_succ]
          first | (refine WkS.skip (m := 19) (k := 4) rfl (by rfl) ?_) | (refine WkS.pure (m := 19) (k := 4) (v := _) rfl (by rfl) (fun wv => by go_simp; try with_reducible rfl) ?_) | (refine WkS.step (m := 19) (k := 4) (v := _) rfl (by rfl) (by kernel_rfl) (fun wv hS => by obtain ⟨s0, s1, s2, s3, s4, s5, s6, s7, s8⟩ := hS; go_simp; try with_reducible rfl) ?_)
          try simp only [Act.put, List.getElem_toArray, List.getElem_cons_succ, List.getElem_cons_zero, List.setIfInBounds_toArray, List.set_cons_zero, List.set_cons_succ]
          first | (refine WkS.skip (m := 18) (k := 5) rfl (by rfl) ?_) | (refine WkS.pure (m := 18) (k := 5) (v := _) rfl (by rfl) (fun wv => by go_simp; try with_reducible rfl) ?_) | (refine WkS.step (m := 18) (k := 5) (v := _) rfl (by rfl) (by kernel_rfl) (fun wv hS => by obtain ⟨s0, s1, s2, s3, s4, s5, s6, s7, s8⟩ := hS; go_simp; try with_reducible rfl) ?_)
          try simp only [Act.put, List.getElem_toArray, List.getElem_cons_succ, List.getElem_cons_zero, List.setIfInBounds_toArray, List.set_cons_zero, List.set_cons_succ]
          first | (refine WkS.skip (m := 17) (k := 6) rfl (by rfl) ?_) | (refine WkS.pure (m := 17) (k := 6) (v := _) rfl (by rfl) (fun wv => by go_simp; try with_reducible rfl) ?_) | (refine WkS.step (m := 17) (k := 6) (v := _) rfl (by rfl) (by kernel_rfl) (fun wv hS => by obtain ⟨s0, s1, s2, s3, s4, s5, s6, s7, s8⟩ := hS; go_simp; try with_reducible rfl) ?_)
          try simp only [Act.put, List.getElem_toArray, List.getElem_cons_succ, List.getElem_cons_zero, List.setIfInBounds_toArray, List.set_cons_zero, List.set_cons_succ]
          first | (refine WkS.skip (m := 16) (k := 7) rfl (by rfl) ?_) | (refine WkS.pure (m := 16) (k := 7) (v := _) rfl (by rfl) (fun wv => by go_simp; try with_reducible rfl) ?_) | (refine WkS.step (m := 16) (k := 7) (v := _) rfl (by rfl) (by kernel_rfl) (fun wv hS => by obtain ⟨s0, s1, s2, s3, s4, s5, s6, s7, s8⟩ := hS; go_simp; try with_reducible rfl) ?_)
          try simp only [Act.put, List.getElem_toArray, List.getElem_cons_succ, List.getElem_cons_zero, List.setIfInBounds_toArray, List.set_cons_zero, List.set_cons_succ]
          first | (refine WkS.skip (m := 15) (k := 8) rfl (by rfl) ?_) | (refine WkS.pure (m := 15) (k := 8) (v := _) rfl (by rfl) (fun wv => by go_simp; try with_reducible rfl) ?_) | (refine WkS.step (m := 15) (k := 8) (v := _) rfl (by rfl) (by kernel_rfl) (fun wv hS => by obtain ⟨s0, s1, s2, s3, s4, s5, s6, s7, s8⟩ := hS; go_simp; try with_reducible rfl) ?_)
          try simp only [Act.put, List.getElem_toArray, List.getElem_cons_succ, List.getElem_cons_zero, List.setIfInBounds_toArray, List.set_cons_zero, List.set_cons_succ]
          first | (refine WkS.skip (m := 14) (k := 9) rfl (by rfl) ?_) | (refine WkS.pure (m := 14) (k := 9) (v := _) rfl (by rfl) (fun wv => by go_simp; try with_reducible rfl) ?_) | (refine WkS.step (m := 14) (k := 9) (v := _) rfl (by rfl) (by kernel_rfl) (fun wv hS => by obtain ⟨s0, s1, s2, s3, s4, s5, s6, s7, s8⟩ := hS; go_simp; try with_reducible rfl) ?_)
          try simp only [Act.put, List.getElem_toArray, List.getElem_cons_succ, List.getElem_cons_zero, List.setIfInBounds_toArray, List.set_cons_zero, List.set_cons_succ]
          first | (refine WkS.skip (m := 13) (k := 10) rfl (by rfl) ?_) | (refine WkS.pure (m := 13) (k := 10) (v := _) rfl (by rfl) (fun wv => by go_simp; try with_reducible rfl) ?_) | (refine WkS.step (m := 13) (k := 10) (v := _) rfl (by rfl) (by kernel_rfl) (fun wv hS => by obtain ⟨s0, s1, s2, s3, s4, s5, s6, s7, s8⟩ := hS; go_simp; try with_reducible rfl) ?_)
          try simp only [Act.put, List.getElem_toArray, List.getElem_cons_succ, List.getElem_cons_zero, List.setIfInBounds_toArray, List.set_cons_zero, List.set_cons_succ]
          first | (refine WkS.skip (m := 12) (k := 11) rfl (by rfl) ?_) | (refine WkS.pure (m := 12) (k := 11) (v := _) rfl (by rfl) (fun wv => by go_simp; try with_reducible rfl) ?_) | (refine WkS.step (m := 12) (k := 11) (v := _) rfl (by rfl) (by kernel_rfl) (fun wv hS => by obtain ⟨s0, s1, s2, s3, s4, s5, s6, s7, s8⟩ := hS; go_simp; try with_reducible rfl) ?_)
          try simp only [Act.put, List.getElem_toArray, List.getElem_cons_succ, List.getElem_cons_zero, List.setIfInBounds_toArray, List.set_cons_zero, List.set_cons_succ]
          first | (refine WkS.skip (m := 11) (k := 12) rfl (by rfl) ?_) | (refine WkS.pure (m := 11) (k := 12) (v := _) rfl (by rfl) (fun wv => by go_simp; try with_reducible rfl) ?_) | (refine WkS.step (m := 11) (k := 12) (v := _) rfl (by rfl) (by kernel_rfl) (fun wv hS => by obtain ⟨s0, s1, s2, s3, s4, s5, s6, s7, s8⟩ := hS; go_simp; try with_reducible rfl) ?_)
          try simp only [Act.put, List.getElem_toArray, List.getElem_cons_succ, List.getElem_cons_zero, List.setIfInBounds_toArray, List.set_cons_zero, List.set_cons_succ]
          first | (refine WkS.skip (m := 10) (k := 13) rfl (by rfl) ?_) | (refine WkS.pure (m := 10) (k := 13) (v := _) rfl (by rfl) (fun wv => by go_simp; try with_reducible rfl) ?_) | (refine WkS.step (m := 10) (k := 13) (v := _) rfl (by rfl) (by kernel_rfl) (fun wv hS => by obtain ⟨s0, s1, s2, s3, s4, s5, s6, s7, s8⟩ := hS; go_simp; try with_reducible rfl) ?_)
          try simp only [Act.put, List.getElem_toArray, List.getElem_cons_succ, List.getElem_cons_zero, List.setIfInBounds_toArray, List.set_cons_zero, List.set_cons_succ]
          first | (refine WkS.skip (m := 9) (k := 14) rfl (by rfl) ?_) | (refine WkS.pure (m := 9) (k := 14) (v := _) rfl (by rfl) (fun wv => by go_simp; try with_reducible rfl) ?_) | (refine WkS.step (m := 9) (k := 14) (v := _) rfl (by rfl) (by kernel_rfl) (fun wv hS => by obtain ⟨s0, s1, s2, s3, s4, s5, s6, s7, s8⟩ := hS; go_simp; try with_reducible rfl) ?_)
          try simp only [Act.put, List.getElem_toArray, List.getElem_cons_succ, List.getElem_cons_zero, List.setIfInBounds_toArray, List.set_cons_zero, List.set_cons_succ]
          first | (refine WkS.skip (m := 8) (k := 15) rfl (by rfl) ?_) | (refine WkS.pure (m := 8) (k := 15) (v := _) rfl (by rfl) (fun wv => by go_simp; try with_reducible rfl) ?_) | (refine WkS.step (m := 8) (k := 15) (v := _) rfl (by rfl) (by kernel_rfl) (fun wv hS => by obtain ⟨s0, s1, s2, s3, s4, s5, s6, s7, s8⟩ := hS; go_simp; try with_reducible rfl) ?_)
          try simp only [Act.put, List.getElem_toArray, List.getElem_cons_succ, List.getElem_cons_zero, List.setIfInBounds_toArray, List.set_cons_zero, List.set_cons_succ]
          first | (refine WkS.skip (m := 7) (k := 16) rfl (by rfl) ?_) | (refine WkS.pure (m := 7) (k := 16) (v := _) rfl (by rfl) (fun wv => by go_simp; try with_reducible rfl) ?_) | (refine WkS.step (m := 7) (k := 16) (v := _) rfl (by rfl) (by kernel_rfl) (fun wv hS => by obtain ⟨s0, s1, s2, s3, s4, s5, s6, s7, s8⟩ := hS; go_simp; try with_reducible rfl) ?_)
          try simp only [Act.put, List.getElem_toArray, List.getElem_cons_succ, List.getElem_cons_zero, List.setIfInBounds_toArray, List.set_cons_zero, List.set_cons_succ]
          first | (refine WkS.skip (m := 6) (k := 17) rfl (by rfl) ?_) | (refine WkS.pure (m := 6) (k := 17) (v := _) rfl (by rfl) (fun wv => by go_simp; try with_reducible rfl) ?_) | (refine WkS.step (m := 6) (k := 17) (v := _) rfl (by rfl) (by kernel_rfl) (fun wv hS => by obtain ⟨s0, s1, s2, s3, s4, s5, s6, s7, s8⟩ := hS; go_simp; try with_reducible rfl) ?_)
          try simp only [Act.put, List.getElem_toArray, List.getElem_cons_succ, List.getElem_cons_zero, List.setIfInBounds_toArray, List.set_cons_zero, List.set_cons_succ]
          first | (refine WkS.skip (m := 5) (k := 18) rfl (by rfl) ?_) | (refine WkS.pure (m := 5) (k := 18) (v := _) rfl (by rfl) (fun wv => by go_simp; try with_reducible rfl) ?_) | (refine WkS.step (m := 5) (k := 18) (v := _) rfl (by rfl) (by kernel_rfl) (fun wv hS => by obtain ⟨s0, s1, s2, s3, s4, s5, s6, s7, s8⟩ := hS; go_simp; try with_reducible rfl) ?_)
          try simp only [Act.put, List.getElem_toArray, List.getElem_cons_succ, List.getElem_cons_zero, List.setIfInBounds_toArray, List.set_cons_zero, List.set_cons_succ]
          first | (refine WkS.skip (m := 4) (k := 19) rfl (by rfl) ?_) | (refine WkS.pure (m := 4) (k := 19) (v := _) rfl (by rfl) (fun wv => by go_simp; try with_reducible rfl) ?_) | (refine WkS.step (m := 4) (k := 19) (v := _) rfl (by rfl) (by kernel_rfl) (fun wv hS => by obtain ⟨s0, s1, s2, s3, s4, s5, s6, s7, s8⟩ := hS; go_simp; try with_reducible rfl) ?_)
          try simp only [Act.put, List.getElem_toArray, List.getElem_cons_succ, List.getElem_cons_zero, List.setIfInBounds_toArray, List.set_cons_zero, List.set_cons_succ]
          first | (refine WkS.skip (m := 3) (k := 20) rfl (by rfl) ?_) | (refine WkS.pure (m := 3) (k := 20) (v := _) rfl (by rfl) (fun wv => by go_simp; try with_reducible rfl) ?_) | (refine WkS.step (m := 3) (k := 20) (v := _) rfl (by rfl) (by kernel_rfl) (fun wv hS => by obtain ⟨s0, s1, s2, s3, s4, s5, s6, s7, s8⟩ := hS; go_simp; try with_reducible rfl) ?_)
          try simp only [Act.put, List.getElem_toArray, List.getElem_cons_succ, List.getElem_cons_zero, List.setIfInBounds_toArray, List.set_cons_zero, List.set_cons_succ]
          first | (refine WkS.skip (m := 2) (k := 21) rfl (by rfl) ?_) | (refine WkS.pure (m := 2) (k := 21) (v := _) rfl (by rfl) (fun wv => by go_simp; try with_reducible rfl) ?_) | (refine WkS.step (m := 2) (k := 21) (v := _) rfl (by rfl) (by kernel_rfl) (fun wv hS => by obtain ⟨s0, s1, s2, s3, s4, s5, s6, s7, s8⟩ := hS; go_simp; try with_reducible rfl) ?_)
          try simp only [Act.put, List.getElem_toArray, List.getElem_cons_succ, List.getElem_cons_zero, List.setIfInBounds_toArray, List.set_cons_zero, List.set_cons_succ]
          first | (refine WkS.skip (m := 1) (k := 22) rfl (by rfl) ?_) | (refine WkS.pure (m := 1) (k := 22) (v := _) rfl (by rfl) (fun wv => by go_simp; try with_reducible rfl) ?_) | (refine WkS.step (m := 1) (k := 22) (v := _) rfl (by rfl) (by kernel_rfl) (fun wv hS => by obtain ⟨s0, s1, s2, s3, s4, s5, s6, s7, s8⟩ := hS; go_simp; try with_reducible rfl) ?_)
          try simp only [Act.put, List.getElem_toArray, List.getElem_cons_succ, List.getElem_cons_zero, List.setIfInBounds_toArray, List.set_cons_zero, List.set_cons_succ]
          first | (refine WkS.skip (m := 0) (k := 23) rfl (by rfl) ?_) | (refine WkS.pure (m := 0) (k := 23) (v := _) rfl (by rfl) (fun wv => by go_simp; try with_reducible rfl) ?_) | (refine WkS.step (m := 0) (k := 23) (v := _) rfl (by rfl) (by kernel_rfl) (fun wv hS => by obtain ⟨s0, s1, s2, s3, s4, s5, s6, s7, s8⟩ := hS; go_simp; try with_reducible rfl) ?_)
          try simp only [Act.put, List.getElem_toArray, List.getElem_cons_succ, List.getElem_cons_zero, List.setIfInBounds_toArray, List.set_cons_zero, List.set_cons_succ]
          refine WkS.done fun wE hE => ?_
          clear k0 k1 u0 u1 u2 u3 d0 cg
          obtain ⟨mE, k0, k1, u0, u1, u2, u3, d0, cg⟩ := hE
          have zE0 := mE.size
          change wpSoft _ _ _ _ 26 2 _ _
          refine wpSoft.call (n := 1) _ _ rfl (by rfl) (by go_simp; first | done | exact ⟨rfl, rfl⟩ | with_reducible rfl) ?_
          refine (specSData x0 x1 (some ⟨b, off, none⟩) n c B' hs ((k : Int) + 1) _ (h.mk (hMW.trans mE) hB' (.inr (Nat.le_refl _))) (Nat.le_trans hB' (hMW.trans mE).size) hn).mono ?_
          rintro e wF0 ⟨A, N, C, rfl, hA2, hO, bb⟩
          refine ⟨_, rfl, ⟨mE.trans ((Mk.of_below bb)), ((Mk.of_below bb)).cellAt k0, ((Mk.of_below bb)).cellAt k1, ((Mk.of_below bb)).cellAt u0, ((Mk.of_below bb)).cellAt u1, ((Mk.of_below bb)).cellAt u2, ((Mk.of_below bb)).cellAt u3, ((Mk.of_below bb)).cellAt d0, ((Mk.of_below bb)).cellAt cg⟩, ?_⟩
          intro wG0 mG0 hG0
          clear mE k0 k1 u0 u1 u2 u3 d0 cg
          obtain ⟨mE, k0, k1, u0, u1, u2, u3, d0, cg⟩ := hG0
          rw [← hL.out] at hO
          obtain rfl : dsz k = N := HL.out.symm.trans hO.1
          have hD := ((hO.toR (hi := wF0.heap.size) (Nat.le_refl _)).has.mk mG0 (Nat.le_refl _) (.inr (Nat.le_refl _))).mono mG0.size
          try simp only [Act.put, List.getElem_toArray, List.getElem_cons_succ, List.getElem_cons_zero, List.setIfInBounds_toArray, List.set_cons_zero, List.set_cons_succ]
          change wpSoft _ _ _ _ 26 1 _ _
          refine wpSoft.call (n := 0) _ _ rfl (by rfl) (by go_simp; first | done | exact ⟨rfl, rfl⟩ | with_reducible rfl) ?_
          refine (specVerS a0 a1 n0 c0 n1 c1 B zs ⟨x.nd, g⟩ A (dsz k) C wG0.heap.size L _ (hA.mk (hMW.trans mE) hB (.inr (Nat.le_refl _))) (Nat.le_trans hB (hMW.trans mE).size) hn0 HZ.out (hasR_int.1 hD) (Nat.le_refl _) hdn hA2 HDF.out).mono ?_
          rintro e wF1 ⟨he, mv⟩
          rw [HVV.out] at he
          subst he
          refine ⟨_, rfl, ⟨mE.trans (mv), (mv).cellAt k0, (mv).cellAt k1, (mv).cellAt u0, (mv).cellAt u1, (mv).cellAt u2, (mv).cellAt u3, (mv).cellAt d0, (mv).cellAt cg⟩, ?_⟩
          intro wG1 mG1 hG1
          clear mE k0 k1 u0 u1 u2 u3 d0 cg
          obtain ⟨mE, k0, k1, u0, u1, u2, u3, d0, cg⟩ := hG1
          try simp only [Act.put, List.getElem_toArray, List.getElem_cons_succ, List.getElem_cons_zero, List.setIfInBounds_toArray, List.set_cons_zero, List.set_cons_succ]
          refine wpSoft.done ?_
          simp only [List.drop_succ_cons, List.drop_zero]
          clear hwk
          go_wp2_with fail
          try simp only [noPan]
          try (go_wp2_with fail)
          go_ret
          exact ⟨retI HE.out.symm, hMW.trans mE⟩
        · have HVV := Lib.hid hv
          clear hv
          have HE := Lib.hid (show fbV zs n0 x0 x1 hs n gs n3 = fbN (badS zs n0 x0 x1 hs n gs n3) n (n - (k + 1)) by rw [hS.out]; exact fbN_go hlt (by rw [HV.out, HVV.out]; rfl))
          go_wp2_with fail
          have hwk : IntKind.i64.wrap ((k : Int) + 1) = (k : Int) + 1 := by rw [IntKind.wrap_i64]; omega
          refine wp_region_wks (fun w' => Mk0 wr w' ∧ w'.cell? ⟨w.heap.size, 0, none⟩ = some (.slice a0 n0 c0) ∧ w'.cell? ⟨w.heap.size, 1, none⟩ = some (.slice a1 n1 c1) ∧ w'.cell? ⟨w.heap.size + 1, 0, none⟩ = some (.int .i64 x0) ∧ w'.cell? ⟨w.heap.size + 1, 1, none⟩ = some (.int .i64 x1) ∧ w'.cell? ⟨w.heap.size + 1, 2, none⟩ = some (.slice (some ⟨b, off, none⟩) n c) ∧ w'.cell? ⟨w.heap.size + 1, 3, none⟩ = some (.slice (some ⟨bg, og, none⟩) n3 c3) ∧ w'.cell? ⟨b, off + k * 5, none⟩ = some (.int .i64 x.nd) ∧ w'.cell? ⟨bg, og + k, none⟩ = some (.int .i64 g)) 24 26 (by kernel_rfl) (by kernel_rfl) (by kernel_rfl) (by decide) (by decide) (⟨Mk.drew1 _, k0, k1, u0, u1, u2, u3, d0, cg⟩) ?_
          change WkS _ _ _ _ _ _ 24 0 _
          first | (refine WkS.skip (m := 23) (k := 0) rfl (by rfl) ?_) | (refine WkS.pure (m := 23) (k := 0) (v := _) rfl (by rfl) (fun wv => by go_simp; try with_reducible rfl) ?_) | (refine WkS.step (m := 23) (k := 0) (v := _) rfl (by rfl) (by kernel_rfl) (fun wv hS => by obtain ⟨s0, s1, s2, s3, s4, s5, s6, s7, s8⟩ := hS; go_simp; try with_reducible rfl) ?_)
          try simp only [Act.put, List.getElem_toArray, List.getElem_cons_zero, List.setIfInBounds_toArray, List.set_cons_zero, List.set_cons_succ]
          first | (refine WkS.skip (m := 22) (k := 1) rfl (by rfl) ?_) | (refine WkS.pure (m := 22) (k := 1) (v := _) rfl (by rfl) (fun wv => by go_simp; try with_reducible rfl) ?_) | (refine WkS.step (m := 22) (k := 1) (v := _) rfl (by rfl) (by kernel_rfl) (fun wv hS => by obtain ⟨s0, s1, s2, s3, s4, s5, s6, s7, s8⟩ := hS; go_simp; try with_reducible rfl) ?_)
          try simp only [Act.put, List.getElem_toArray, List.getElem_cons_succ, List.getElem_cons_zero, List.setIfInBounds_toArray, List.set_cons_zero, List.set_cons_succ]
          first | (refine WkS.skip (m := 21) (k := 2) rfl (by rfl) ?_) | (refine WkS.pure (m := 21) (k := 2) (v := _) rfl (by rfl) (fun wv => by go_simp; try with_reducible rfl) ?_) | (refine WkS.step (m := 21) (k := 2) (v := _) rfl (by rfl) (by kernel_rfl) (fun wv hS => by obtain ⟨s0, s1, s2, s3, s4, s5, s6, s7, s8⟩ := hS; go_simp; try with_reducible rfl) ?_)
          try simp only [Act.put, List.getElem_toArray, List.getElem_cons_succ, List.getElem_cons_zero, List.setIfInBounds_toArray, List.set_cons_zero, List.set_cons_succ]
          first | (refine WkS.skip (m := 20) (k := 3) rfl (by rfl) ?_) | (refine WkS.pure (m := 20) (k := 3) (v := _) rfl (by rfl) (fun wv => by go_simp; try with_reducible rfl) ?_) | (refine WkS.step (m := 20) (k := 3) (v := _) rfl (by rfl) (by kernel_rfl) (fun wv hS => by obtain ⟨s0, s1, s2, s3, s4, s5, s6, s7, s8⟩ := hS; go_simp; try with_reducible rfl) ?_)
          try simp only [Act.put, List.getElem_toArray, List.getElem_cons_succ, List.getElem_cons_zero, List.setIfInBounds_toArray, List.set_cons_zero, List.set_cons_succ]
          first | (refine WkS.skip (m := 19) (k := 4) rfl (by rfl) ?_) | (refine WkS.pure (m := 19) (k := 4) (v := _) rfl (by rfl) (fun wv => by go_simp; try with_reducible rfl) ?_) | (refine WkS.step (m := 19) (k := 4) (v := _) rfl (by rfl) (by kernel_rfl) (fun wv hS => by obtain ⟨s0, s1, s2, s3, s4, s5, s6, s7, s8⟩ := hS; go_simp; try with_reducible rfl) ?_)
          try simp only [Act.put, List.getElem_toArray, List.getElem_cons_succ, List.getElem_cons_zero, List.setIfInBounds_toArray, List.set_cons_zero, List.set_cons_succ]
          first | (refine WkS.skip (m := 18) (k := 5) rfl (by rfl) ?_) | (refine WkS.pure (m := 18) (k := 5) (v := _) rfl (by rfl) (fun wv => by go_simp; try with_reducible rfl) ?_) | (refine WkS.step (m := 18) (k := 5) (v := _) rfl (by rfl) (by kernel_rfl) (fun wv hS => by obtain ⟨s0, s1, s2, s3, s4, s5, s6, s7, s8⟩ := hS; go_simp; try with_reducible rfl) ?_)
          try simp only [Act.put, List.getElem_toArray, List.getElem_cons_succ, List.getElem_cons_zero, List.setIfInBounds_toArray, List.set_cons_zero, List.set_cons_succ]
          first | (refine WkS.skip (m := 17) (k := 6) rfl (by rfl) ?_) | (refine WkS.pure (m := 17) (k := 6) (v := _) rfl (by rfl) (fun wv => by go_simp; try with_reducible rfl) ?_) | (refine WkS.step (m := 17) (k := 6) (v := _) rfl (by rfl) (by kernel_rfl) (fun wv hS => by obtain ⟨s0, s1, s2, s3, s4, s5, s6, s7, s8⟩ := hS; go_simp; try with_reducible rfl) ?_)
          try simp only [Act.put, List.getElem_toArray, List.getElem_cons_succ, List.getElem_cons_zero, List.setIfInBounds_toArray, List.set_cons_zero, List.set_cons_succ]
          first | (refine WkS.skip (m := 16) (k := 7) rfl (by rfl) ?_) | (refine WkS.pure (m := 16) (k := 7) (v := _) rfl (by rfl) (fun wv => by go_simp; try with_reducible rfl) ?_) | (refine WkS.step (m := 16) (k := 7) (v := _) rfl (by rfl) (by kernel_rfl) (fun wv hS => by obtain ⟨s0, s1, s2, s3, s4, s5, s6, s7, s8⟩ := hS; go_simp; try with_reducible rfl) ?_)
          try simp only [Act.put, List.getElem_toArray, List.getElem_cons_succ, List.getElem_cons_zero, List.setIfInBounds_toArray, List.set_cons_zero, List.set_cons_succ]
          first | (refine WkS.skip (m := 15) (k := 8) rfl (by rfl) ?_) | (refine WkS.pure (m := 15) (k := 8) (v := _) rfl (by rfl) (fun wv => by go_simp; try with_reducible rfl) ?_) | (refine WkS.step (m := 15) (k := 8) (v := _) rfl (by rfl) (by kernel_rfl) (fun wv hS => by obtain ⟨s0, s1, s2, s3, s4, s5, s6, s7, s8⟩ := hS; go_simp; try with_reducible rfl) ?_)
          try simp only [Act.put, List.getElem_toArray, List.getElem_cons_succ, List.getElem_cons_zero, List.setIfInBounds_toArray, List.set_cons_zero, List.set_cons_succ]
          first | (refine WkS.skip (m := 14) (k := 9) rfl (by rfl) ?_) | (refine WkS.pure (m := 14) (k := 9) (v := _) rfl (by rfl) (fun wv => by go_simp; try with_reducible rfl) ?_) | (refine WkS.step (m := 14) (k := 9) (v := _) rfl (by rfl) (by kernel_rfl) (fun wv hS => by obtain ⟨s0, s1, s2, s3, s4, s5, s6, s7, s8⟩ := hS; go_simp; try with_reducible rfl) ?_)
          try simp only [Act.put, List.getElem_toArray, List.getElem_cons_succ, List.getElem_cons_zero, List.setIfInBounds_toArray, List.set_cons_zero, List.set_cons_succ]
          first | (refine WkS.skip (m := 13) (k := 10) rfl (by rfl) ?_) | (refine WkS.pure (m := 13) (k := 10) (v := _) rfl (by rfl) (fun wv => by go_simp; try with_reducible rfl) ?_) | (refine WkS.step (m := 13) (k := 10) (v := _) rfl (by rfl) (by kernel_rfl) (fun wv hS => by obtain ⟨s0, s1, s2, s3, s4, s5, s6, s7, s8⟩ := hS; go_simp; try with_reducible rfl) ?_)
          try simp only [Act.put, List.getElem_toArray, List.getElem_cons_succ, List.getElem_cons_zero, List.setIfInBounds_toArray, List.set_cons_zero, List.set_cons_succ]
          first | (refine WkS.skip (m := 12) (k := 11) rfl (by rfl) ?_) | (refine WkS.pure (m := 12) (k := 11) (v := _) rfl (by rfl) (fun wv => by go_simp; try with_reducible rfl) ?_) | (refine WkS.step (m := 12) (k := 11) (v := _) rfl (by rfl) (by kernel_rfl) (fun wv hS => by obtain ⟨s0, s1, s2, s3, s4, s5, s6, s7, s8⟩ := hS; go_simp; try with_reducible rfl) ?_)
          try simp only [Act.put, List.getElem_toArray, List.getElem_cons_succ, List.getElem_cons_zero, List.setIfInBounds_toArray, List.set_cons_zero, List.set_cons_succ]
          first | (refine WkS.skip (m := 11) (k := 12) rfl (by rfl) ?_) | (refine WkS.pure (m := 11) (k := 12) (v := _) rfl (by rfl) (fun wv => by go_simp; try with_reducible rfl) ?_) | (refine WkS.step (m := 11) (k := 12) (v := _) rfl (by rfl) (by kernel_rfl) (fun wv hS => by obtain ⟨s0, s1, s2, s3, s4, s5, s6, s7, s8⟩ := hS; go_simp; try with_reducible rfl) ?_)
          try simp only [Act.put, List.getElem_toArray, List.getElem_cons_succ, List.getElem_cons_zero, List.setIfInBounds_toArray, List.set_cons_zero, List.set_cons_succ]
          first | (refine WkS.skip (m := 10) (k := 13) rfl (by rfl) ?_) | (refine WkS.pure (m := 10) (k := 13) (v := _) rfl (by rfl) (fun wv => by go_simp; try with_reducible rfl) ?_) | (refine WkS.step (m := 10) (k := 13) (v := _) rfl (by rfl) (by kernel_rfl) (fun wv hS => by obtain ⟨s0, s1, s2, s3, s4, s5, s6, s7, s8⟩ := hS; go_simp; try with_reducible rfl) ?_)
          try simp only [Act.put, List.getElem_toArray, List.getElem_cons_succ, List.getElem_cons_zero, List.setIfInBounds_toArray, List.set_cons_zero, List.set_cons_succ]
          first | (refine WkS.skip (m := 9) (k := 14) rfl (by rfl) ?_) | (refine WkS.pure (m := 9) (k := 14) (v := _) rfl (by rfl) (fun wv => by go_simp; try with_reducible rfl) ?_) | (refine WkS.step (m := 9) (k := 14) (v := _) rfl (by rfl) (by kernel_rfl) (fun wv hS => by obtain ⟨s0, s1, s2, s3, s4, s5, s6, s7, s8⟩ := hS; go_simp; try with_reducible rfl) ?_)
          try simp only [Act.put, List.getElem_toArray, List.getElem_cons_succ, List.getElem_cons_zero, List.setIfInBounds_toArray, List.set_cons_zero, List.set_cons_succ]
          first | (refine WkS.skip (m := 8) (k := 15) rfl (by rfl) ?_) | (refine WkS.pure (m := 8) (k := 15) (v := _) rfl (by rfl) (fun wv => by go_simp; try with_reducible rfl) ?_) | (refine WkS.step (m := 8) (k := 15) (v := _) rfl (by rfl) (by kernel_rfl) (fun wv hS => by obtain ⟨s0, s1, s2, s3, s4, s5, s6, s7, s8⟩ := hS; go_simp; try with_reducible rfl) ?_)
          try simp only [Act.put, List.getElem_toArray, List.getElem_cons_succ, List.getElem_cons_zero, List.setIfInBounds_toArray, List.set_cons_zero, List.set_cons_succ]
          first | (refine WkS.skip (m := 7) (k := 16) rfl (by rfl) ?_) | (refine WkS.pure (m := 7) (k := 16) (v := _) rfl (by rfl) (fun wv => by go_simp; try with_reducible rfl) ?_) | (refine WkS.step (m := 7) (k := 16) (v := _) rfl (by rfl) (by kernel_rfl) (fun wv hS => by obtain ⟨s0, s1, s2, s3, s4, s5, s6, s7, s8⟩ := hS; go_simp; try with_reducible rfl) ?_)
          try simp only [Act.put, List.getElem_toArray, List.getElem_cons_succ, List.getElem_cons_zero, List.setIfInBounds_toArray, List.set_cons_zero, List.set_cons_succ]
          first | (refine WkS.skip (m := 6) (k := 17) rfl (by rfl) ?_) | (refine WkS.pure (m := 6) (k := 17) (v := _) rfl (by rfl) (fun wv => by go_simp; try with_reducible rfl) ?_) | (refine WkS.step (m := 6) (k := 17) (v := _) rfl (by rfl) (by kernel_rfl) (fun wv hS => by obtain ⟨s0, s1, s2, s3, s4, s5, s6, s7, s8⟩ := hS; go_simp; try with_reducible rfl) ?_)
          try simp only [Act.put, List.getElem_toArray, List.getElem_cons_succ, List.getElem_cons_zero, List.setIfInBounds_toArray, List.set_cons_zero, List.set_cons_succ]
          first | (refine WkS.skip (m := 5) (k := 18) rfl (by rfl) ?_) | (refine WkS.pure (m := 5) (k := 18) (v := _) rfl (by rfl) (fun wv => by go_simp; try with_reducible rfl) ?_) | (refine WkS.step (m := 5) (k := 18) (v := _) rfl (by rfl) (by kernel_rfl) (fun wv hS => by obtain ⟨s0, s1, s2, s3, s4, s5, s6, s7, s8⟩ := hS; go_simp; try with_reducible rfl) ?_)
          try simp only [Act.put, List.getElem_toArray, List.getElem_cons_succ, List.getElem_cons_zero, List.setIfInBounds_toArray, List.set_cons_zero, List.set_cons_succ]
          first | (refine WkS.skip (m := 4) (k := 19) rfl (by rfl) ?_) | (refine WkS.pure (m := 4) (k := 19) (v := _) rfl (by rfl) (fun wv => by go_simp; try with_reducible rfl) ?_) | (refine WkS.step (m := 4) (k := 19) (v := _) rfl (by rfl) (by kernel_rfl) (fun wv hS => by obtain ⟨s0, s1, s2, s3, s4, s5, s6, s7, s8⟩ := hS; go_simp; try with_reducible rfl) ?_)
          try simp only [Act.put, List.getElem_toArray, List.getElem_cons_succ, List.getElem_cons_zero, List.setIfInBounds_toArray, List.set_cons_zero, List.set_cons_succ]
          first | (refine WkS.skip (m := 3) (k := 20) rfl (by rfl) ?_) | (refine WkS.pure (m := 3) (k := 20) (v := _) rfl (by rfl) (fun wv => by go_simp; try with_reducible rfl) ?_) | (refine WkS.step (m := 3) (k := 20) (v := _) rfl (by rfl) (by kernel_rfl) (fun wv hS => by obtain ⟨s0, s1, s2, s3, s4, s5, s6, s7, s8⟩ := hS; go_simp; try with_reducible rfl) ?_)
          try simp only [Act.put, List.getElem_toArray, List.getElem_cons_succ, List.getElem_cons_zero, List.setIfInBounds_toArray, List.set_cons_zero, List.set_cons_succ]
          first | (refine WkS.skip (m := 2) (k := 21) rfl (by rfl) ?_) | (refine WkS.pure (m := 2) (k := 21) (v := _) rfl (by rfl) (fun wv => by go_simp; try with_reducible rfl) ?_) | (refine WkS.step (m := 2) (k := 21) (v := _) rfl (by rfl) (by kernel_rfl) (fun wv hS => by obtain ⟨s0, s1, s2, s3, s4, s5, s6, s7, s8⟩ := hS; go_simp; try with_reducible rfl) ?_)
          try simp only [Act.put, List.getElem_toArray, List.getElem_cons_succ, List.getElem_cons_zero, List.setIfInBounds_toArray, List.set_cons_zero, List.set_cons_succ]
          first | (refine WkS.skip (m := 1) (k := 22) rfl (by rfl) ?_) | (refine WkS.pure (m := 1) (k := 22) (v := _) rfl (by rfl) (fun wv => by go_simp; try with_reducible rfl) ?_) | (refine WkS.step (m := 1) (k := 22) (v := _) rfl (by rfl) (by kernel_rfl) (fun wv hS => by obtain ⟨s0, s1, s2, s3, s4, s5, s6, s7, s8⟩ := hS; go_simp; try with_reducible rfl) ?_)
          try simp only [Act.put, List.getElem_toArray, List.getElem_cons_succ, List.getElem_cons_zero, List.setIfInBounds_toArray, List.set_cons_zero, List.set_cons_succ]
          first | (refine WkS.skip (m := 0) (k := 23) rfl (by rfl) ?_) | (refine WkS.pure (m := 0) (k := 23) (v := _) rfl (by rfl) (fun wv => by go_simp; try with_reducible rfl) ?_) | (refine WkS.step (m := 0) (k := 23) (v := _) rfl (by rfl) (by kernel_rfl) (fun wv hS => by obtain ⟨s0, s1, s2, s3, s4, s5, s6, s7, s8⟩ := hS; go_simp; try with_reducible rfl) ?_)
          try simp only [Act.put, List.getElem_toArray, List.getElem_cons_succ, List.getElem_cons_zero, List.setIfInBounds_toArray, List.set_cons_zero, List.set_cons_succ]
          refine WkS.done fun wE hE => ?_
          clear k0 k1 u0 u1 u2 u3 d0 cg
          obtain ⟨mE, k0, k1, u0, u1, u2, u3, d0, cg⟩ := hE
          have zE0 := mE.size
          change wpSoft _ _ _ _ 26 2 _ _
          refine wpSoft.call (n := 1) _ _ rfl (by rfl) (by go_simp; first | done | exact ⟨rfl, rfl⟩ | with_reducible rfl) ?_
          refine (specSData x0 x1 (some ⟨b, off, none⟩) n c B' hs ((k : Int) + 1) _ (h.mk (hMW.trans mE) hB' (.inr (Nat.le_refl _))) (Nat.le_trans hB' (hMW.trans mE).size) hn).mono ?_
          rintro e wF0 ⟨A, N, C, rfl, hA2, hO, bb⟩
          refine ⟨_, rfl, ⟨mE.trans ((Mk.of_below bb)), ((Mk.of_below bb)).cellAt k0, ((Mk.of_below bb)).cellAt k1, ((Mk.of_below bb)).cellAt u0, ((Mk.of_below bb)).cellAt u1, ((Mk.of_below bb)).cellAt u2, ((Mk.of_below bb)).cellAt u3, ((Mk.of_below bb)).cellAt d0, ((Mk.of_below bb)).cellAt cg⟩, ?_⟩
          intro wG0 mG0 hG0
          clear mE k0 k1 u0 u1 u2 u3 d0 cg
          obtain ⟨mE, k0, k1, u0, u1, u2, u3, d0, cg⟩ := hG0
          rw [← hL.out] at hO
          obtain rfl : dsz k = N := HL.out.symm.trans hO.1
          have hD := ((hO.toR (hi := wF0.heap.size) (Nat.le_refl _)).has.mk mG0 (Nat.le_refl _) (.inr (Nat.le_refl _))).mono mG0.size
          try simp only [Act.put, List.getElem_toArray, List.getElem_cons_succ, List.getElem_cons_zero, List.setIfInBounds_toArray, List.set_cons_zero, List.set_cons_succ]
          change wpSoft _ _ _ _ 26 1 _ _
          refine wpSoft.call (n := 0) _ _ rfl (by rfl) (by go_simp; first | done | exact ⟨rfl, rfl⟩ | with_reducible rfl) ?_
          refine (specVerS a0 a1 n0 c0 n1 c1 B zs ⟨x.nd, g⟩ A (dsz k) C wG0.heap.size L _ (hA.mk (hMW.trans mE) hB (.inr (Nat.le_refl _))) (Nat.le_trans hB (hMW.trans mE).size) hn0 HZ.out (hasR_int.1 hD) (Nat.le_refl _) hdn hA2 HDF.out).mono ?_
          rintro e wF1 ⟨he, mv⟩
          rw [HVV.out] at he
          subst he
          refine ⟨_, rfl, ⟨mE.trans (mv), (mv).cellAt k0, (mv).cellAt k1, (mv).cellAt u0, (mv).cellAt u1, (mv).cellAt u2, (mv).cellAt u3, (mv).cellAt d0, (mv).cellAt cg⟩, ?_⟩
          intro wG1 mG1 hG1
          clear mE k0 k1 u0 u1 u2 u3 d0 cg
          obtain ⟨mE, k0, k1, u0, u1, u2, u3, d0, cg⟩ := hG1
          try simp only [Act.put, List.getElem_toArray, List.getElem_cons_succ, List.getElem_cons_zero, List.setIfInBounds_toArray, List.set_cons_zero, List.set_cons_succ]
          refine wpSoft.done ?_
          simp only [List.drop_succ_cons, List.drop_zero]
          clear hwk
          go_wp2_with fail
          try simp only [noPan]
          try (go_wp2_with fail)
          go_roundw
          case rel => exact ⟨rfl, k + 1, by omega, by go_num, HE.out, hM.trans mE⟩
          case measure => simp [intOf]; omega
    · obtain rfl : k = n := by omega
      go_wp2_with fail
      go_ret
      exact ⟨retI (by rw [hS.out, Nat.sub_self]; rfl), hMW⟩

set_option maxRecDepth 100000 in
set_option maxHeartbeats 40000000 in
theorem implFbad (a0 a1 : Option Addr) (n0 c0 n1 c1 B : Nat) (zs : List TAS) (x0 x1 : Int) (a a3 : Option Addr) (n c n3 c3 B' : Nat) (hs : List THop) (gs : List Int) (w : World) (hA : HasAS w B a0 n0 zs) (hB : B ≤ w.heap.size) (hn0 : n0 ≤ 1048576) (h : HasHop w B' a n hs) (hB' : B' ≤ w.heap.size) (hn : n ≤ 1048576) (hg : HasInt w B' a3 n3 gs) (hn3 : n3 ≤ 1048576) (hc : n ≤ c) (hz : ∀ y ∈ zs, TAS.fits y) (hx0 : (Lit.int .i64 x0).wf = true) (hx1 : (Lit.int .i64 x1).wf = true) (hf : ∀ y ∈ hs, THop.fits y) :
    Calls Try.prog 27 #[.agg #[.slice a0 n0 c0, .slice a1 n1 c1], .agg #[.int .i64 x0, .int .i64 x1, .slice a n c, .slice a3 n3 c3]] w fun e w' => e = .returned (.int .i64 (fbV zs n0 x0 x1 hs n gs n3)) ∧ Mk0 w w' := by
  have M0 := (Mk.alloc w (Obj.cells #[Value.slice a0 n0 c0, Value.slice a1 n1 c1] 55)).new (Obj.cells #[Value.int .i64 x0, Value.int .i64 x1, Value.slice a n c, Value.slice a3 n3 c3] 58)
  have k0 : ((w.alloc (Obj.cells #[Value.slice a0 n0 c0, Value.slice a1 n1 c1] 55)).alloc (Obj.cells #[Value.int .i64 x0, Value.int .i64 x1, Value.slice a n c, Value.slice a3 n3 c3] 58)).cell? ⟨w.heap.size, 0, none⟩ = some (.slice a0 n0 c0) := by simp [go_sem]
  have k1 : ((w.alloc (Obj.cells #[Value.slice a0 n0 c0, Value.slice a1 n1 c1] 55)).alloc (Obj.cells #[Value.int .i64 x0, Value.int .i64 x1, Value.slice a n c, Value.slice a3 n3 c3] 58)).cell? ⟨w.heap.size, 1, none⟩ = some (.slice a1 n1 c1) := by simp [go_sem]
  have u0 : ((w.alloc (Obj.cells #[Value.slice a0 n0 c0, Value.slice a1 n1 c1] 55)).alloc (Obj.cells #[Value.int .i64 x0, Value.int .i64 x1, Value.slice a n c, Value.slice a3 n3 c3] 58)).cell? ⟨w.heap.size + 1, 0, none⟩ = some (.int .i64 x0) := by simp [go_sem]
  have u1 : ((w.alloc (Obj.cells #[Value.slice a0 n0 c0, Value.slice a1 n1 c1] 55)).alloc (Obj.cells #[Value.int .i64 x0, Value.int .i64 x1, Value.slice a n c, Value.slice a3 n3 c3] 58)).cell? ⟨w.heap.size + 1, 1, none⟩ = some (.int .i64 x1) := by simp [go_sem]
  have u2 : ((w.alloc (Obj.cells #[Value.slice a0 n0 c0, Value.slice a1 n1 c1] 55)).alloc (Obj.cells #[Value.int .i64 x0, Value.int .i64 x1, Value.slice a n c, Value.slice a3 n3 c3] 58)).cell? ⟨w.heap.size + 1, 2, none⟩ = some (.slice a n c) := by simp [go_sem]
  have u3 : ((w.alloc (Obj.cells #[Value.slice a0 n0 c0, Value.slice a1 n1 c1] 55)).alloc (Obj.cells #[Value.int .i64 x0, Value.int .i64 x1, Value.slice a n c, Value.slice a3 n3 c3] 58)).cell? ⟨w.heap.size + 1, 3, none⟩ = some (.slice a3 n3 c3) := by simp [go_sem]
  have HZ := Lib.hid hz
  have HC := Lib.hid hc
  have HSF := Lib.hid (fun (k : Nat) (hk : k < n) => sdata_fits (x0 := x0) (x1 := x1) hk h.1 hn hx0 hx1 hf)
  clear hz hc hx0 hx1 hf
  go_enter Try.func27, Try.ntmps27
  go_wp2_with fail
  have hsW : ((w.alloc (Obj.cells #[Value.slice a0 n0 c0, Value.slice a1 n1 c1] 55)).alloc (Obj.cells #[Value.int .i64 x0, Value.int .i64 x1, Value.slice a n c, Value.slice a3 n3 c3] 58)).heap.size = w.heap.size + 1 + 1 := by simp only [World.size_alloc]
  generalize ((w.alloc (Obj.cells #[Value.slice a0 n0 c0, Value.slice a1 n1 c1] 55)).alloc (Obj.cells #[Value.int .i64 x0, Value.int .i64 x1, Value.slice a n c, Value.slice a3 n3 c3] 58)) = WW at *
  go_loopw [4, 12] (fun r i wr => r = .int .i64 0 ∧ ∃ k : Nat, k ≤ n ∧ i = .int .i64 k ∧ Hid (fbV zs n0 x0 x1 hs n gs n3 = fbN (badS zs n0 x0 x1 hs n gs n3) n (n - k)) ∧ Mk0 WW wr) (fun _ i _ => n - (intOf i).toNat)
  case atStart => exact ⟨rfl, 0, Nat.zero_le _, rfl, rfl, Mk.refl _ _ _⟩
  case round =>
    obtain ⟨rfl, k, hk, rfl, hS, hM⟩ := hrel
    replace k0 := hM.cellAt k0
    replace k1 := hM.cellAt k1
    replace u0 := hM.cellAt u0
    replace u1 := hM.cellAt u1
    replace u2 := hM.cellAt u2
    replace u3 := hM.cellAt u3
    have hMW := M0.trans hM
    by_cases hlt : k < n
    · obtain ⟨b, off, x, rfl, hb, hx, d0, d1, d2, d3, d4⟩ := HasHop.at _ _ _ _ _ _ (h.mk hMW hB' (.inr (Nat.le_refl _))) hlt
      have hbr := World.block_lt_of_cell? _ _ d0
      have hbk := World.block_lt_of_cell? _ _ k0
      have hbu := World.block_lt_of_cell? _ _ u0
      simp only at hbr hbk hbu
      have i1 : (0 : Int) ≤ (k : Int) := by omega
      have i2 : (k : Int) < (n : Int) := by omega
      by_cases hq : n3 ≤ k
      · have HE := Lib.hid (show fbV zs n0 x0 x1 hs n gs n3 = (k : Int) by rw [hS.out]; exact fbN_stop hlt (by unfold badS; rw [decide_eq_true hq]; rfl))
        have q1 : decide ((n3 : Int) ≤ (k : Int)) = true := decide_eq_true (by omega)
        have q2 : decide (n3 ≤ k) = true := decide_eq_true hq
        have MX := Mk.alloc wr (Obj.cells #[Value.int .i64 x.nd, Value.int .i64 x.ing, Value.int .i64 x.eg, Value.int .i64 x.exp, Value.int .i64 x.mac] 24)
        go_wp2_with fail
        go_ret
        exact ⟨retI HE.out.symm, hMW.trans MX⟩
      · replace hq : k < n3 := by omega
        have q1 : decide ((n3 : Int) ≤ (k : Int)) = false := decide_eq_false (by omega)
        have q2 : decide (n3 ≤ k) = false := decide_eq_false (by omega)
        have i3 : (k : Int) < (n3 : Int) := by omega
        obtain ⟨bg, og, g, rfl, hbg, hgx, cg⟩ := (hasR_int.1 (hg.mk hMW hB' (.inr (Nat.le_refl _)))).at_ hq
        have hbgr := World.block_lt_of_cell? _ _ cg
        simp only at hbgr
        have HV := Lib.hid (show badS zs n0 x0 x1 hs n gs n3 k = !(verB zs n0 (sdataV x0 x1 hs n ((k : Int) + 1)) ⟨x.nd, g⟩) by unfold badS; rw [q2, hx.out, hgx.out]; rfl)
        have HL := Lib.hid (sdata_dsz (x0 := x0) (x1 := x1) (hs := hs) hlt)
        have HDF := Lib.hid (HSF.out k hlt)
        have hds := dsz_le hlt hn
        have hdn : dsz k ≤ 8388608 := by omega
        clear hds
        obtain ⟨L, hL⟩ : ∃ L, Hid (L = sdataV x0 x1 hs n ((k : Int) + 1)) := ⟨_, Lib.hid rfl⟩
        rw [← hL.out] at HV HL HDF
        cases hv : verB zs n0 L ⟨x.nd, g⟩
        · have HVV := Lib.hid hv
          clear hv
          have HE := Lib.hid (show fbV zs n0 x0 x1 hs n gs n3 = (k : Int) by rw [hS.out]; exact fbN_stop hlt (by rw [HV.out, HVV.out]; rfl))
          have MX := Mk.alloc wr (Obj.cells #[Value.int .i64 x.nd, Value.int .i64 x.ing, Value.int .i64 x.eg, Value.int .i64 x.exp, Value.int .i64 x.mac] 24)
          have q0 : (wr.alloc (Obj.cells #[Value.int .i64 x.nd, Value.int .i64 x.ing, Value.int .i64 x.eg, Value.int .i64 x.exp, Value.int .i64 x.mac] 24)).cell? ⟨wr.heap.size, 0, none⟩ = some (.int .i64 x.nd) := by simp [go_sem]
          replace k0 := MX.cellAt k0
          replace k1 := MX.cellAt k1
          replace u0 := MX.cellAt u0
          replace u1 := MX.cellAt u1
          replace u2 := MX.cellAt u2
          replace u3 := MX.cellAt u3
          replace cg := MX.cellAt cg
          have hMX := hM.trans MX
          have hMWX := hMW.trans MX
          go_wp2_with fail
          refine wp_region_wks (fun w' => Mk0 (wr.alloc (Obj.cells #[Value.int .i64 x.nd, Value.int .i64 x.ing, Value.int .i64 x.eg, Value.int .i64 x.exp, Value.int .i64 x.mac] 24)) w' ∧ w'.cell? ⟨w.heap.size, 0, none⟩ = some (.slice a0 n0 c0) ∧ w'.cell? ⟨w.heap.size, 1, none⟩ = some (.slice a1 n1 c1) ∧ w'.cell? ⟨w.heap.size + 1, 0, none⟩ = some (.int .i64 x0) ∧ w'.cell? ⟨w.heap.size + 1, 1, none⟩ = some (.int .i64 x1) ∧ w'.cell? ⟨w.heap.size + 1, 2, none⟩ = some (.slice (some ⟨b, off, none⟩) n c) ∧ w'.cell? ⟨w.heap.size + 1, 3, none⟩ = some (.slice (some ⟨bg, og, none⟩) n3 c3) ∧ w'.cell? ⟨wr.heap.size, 0, none⟩ = some (.int .i64 x.nd) ∧ w'.cell? ⟨bg, og + k, none⟩ = some (.int .i64 g)) 8 9 (by kernel_rfl) (by kernel_rfl) (by kernel_rfl) (by decide) (by decide) (⟨Mk.drew1 _, k0, k1, u0, u1, u2, u3, q0, cg⟩) ?_
          change WkS _ _ _ _ _ _ 8 0 _
          first | (refine WkS.skip (m := 7) (k := 0) rfl (by rfl) ?_) | (refine WkS.pure (m := 7) (k := 0) (v := _) rfl (by rfl) (fun wv => by go_simp; try with_reducible rfl) ?_) | (refine WkS.step (m := 7) (k := 0) (v := _) rfl (by rfl) (by kernel_rfl) (fun wv hS => by obtain ⟨s0, s1, s2, s3, s4, s5, s6, s7, s8⟩ := hS; go_simp; try with_reducible rfl) ?_)
          try simp only [Act.put, List.getElem_toArray, List.getElem_cons_zero, List.setIfInBounds_toArray, List.set_cons_zero, List.set_cons_succ]
          first | (refine WkS.skip (m := 6) (k := 1) rfl (by rfl) ?_) | (refine WkS.pure (m := 6) (k := 1) (v := _) rfl (by rfl) (fun wv => by go_simp; try with_reducible rfl) ?_) | (refine WkS.step (m := 6) (k := 1) (v := _) rfl (by rfl) (by kernel_rfl) (fun wv hS => by obtain ⟨s0, s1, s2, s3, s4, s5, s6, s7, s8⟩ := hS; go_simp; try with_reducible rfl) ?_)
          try simp only [Act.put, List.getElem_toArray, List.getElem_cons_succ, List.getElem_cons_zero, List.setIfInBounds_toArray, List.set_cons_zero, List.set_cons_succ]
          first | (refine WkS.skip (m := 5) (k := 2) rfl (by rfl) ?_) | (refine WkS.pure (m := 5) (k := 2) (v := _) rfl (by rfl) (fun wv => by go_simp; try with_reducible rfl) ?_) | (refine WkS.step (m := 5) (k := 2) (v := _) rfl (by rfl) (by kernel_rfl) (fun wv hS => by obtain ⟨s0, s1, s2, s3, s4, s5, s6, s7, s8⟩ := hS; go_simp; try with_reducible rfl) ?_)
          try simp only [Act.put, List.getElem_toArray, List.getElem_cons_succ, List.getElem_cons_zero, List.setIfInBounds_toArray, List.set_cons_zero, List.set_cons_succ]
          first | (refine WkS.skip (m := 4) (k := 3) rfl (by rfl) ?_) | (refine WkS.pure (m := 4) (k := 3) (v := _) rfl (by rfl) (fun wv => by go_simp; try with_reducible rfl) ?_) | (refine WkS.step (m := 4) (k := 3) (v := _) rfl (by rfl) (by kernel_rfl) (fun wv hS => by obtain ⟨s0, s1, s2, s3, s4, s5, s6, s7, s8⟩ := hS; go_simp; try with_reducible rfl) ?_)
          try simp only [Act.put, List.getElem_toArray, List.getElem_cons_succ, List.getElem_cons_zero, List.setIfInBounds_toArray, List.set_cons_zero, List.set_cons_succ]
          first | (refine WkS.skip (m := 3) (k := 4) rfl (by rfl) ?_) | (refine WkS.pure (m := 3) (k := 4) (v := _) rfl (by rfl) (fun wv => by go_simp; try with_reducible rfl) ?_) | (refine WkS.step (m := 3) (k := 4) (v := _) rfl (by rfl) (by kernel_rfl) (fun wv hS => by obtain ⟨s0, s1, s2, s3, s4, s5, s6, s7, s8⟩ := hS; go_simp; try with_reducible rfl) ?_)
          try simp only [Act.put, List.getElem_toArray, List.getElem_cons_succ, List.getElem_cons_zero, List.setIfInBounds_toArray, List.set_cons_zero, List.set_cons_succ]
          first | (refine WkS.skip (m := 2) (k := 5) rfl (by rfl) ?_) | (refine WkS.pure (m := 2) (k := 5) (v := _) rfl (by rfl) (fun wv => by go_simp; try with_reducible rfl) ?_) | (refine WkS.step (m := 2) (k := 5) (v := _) rfl (by rfl) (by kernel_rfl) (fun wv hS => by obtain ⟨s0, s1, s2, s3, s4, s5, s6, s7, s8⟩ := hS; go_simp; try with_reducible rfl) ?_)
          try simp only [Act.put, List.getElem_toArray, List.getElem_cons_succ, List.getElem_cons_zero, List.setIfInBounds_toArray, List.set_cons_zero, List.set_cons_succ]
          first | (refine WkS.skip (m := 1) (k := 6) rfl (by rfl) ?_) | (refine WkS.pure (m := 1) (k := 6) (v := _) rfl (by rfl) (fun wv => by go_simp; try with_reducible rfl) ?_) | (refine WkS.step (m := 1) (k := 6) (v := _) rfl (by rfl) (by kernel_rfl) (fun wv hS => by obtain ⟨s0, s1, s2, s3, s4, s5, s6, s7, s8⟩ := hS; go_simp; try with_reducible rfl) ?_)
          try simp only [Act.put, List.getElem_toArray, List.getElem_cons_succ, List.getElem_cons_zero, List.setIfInBounds_toArray, List.set_cons_zero, List.set_cons_succ]
          first | (refine WkS.skip (m := 0) (k := 7) rfl (by rfl) ?_) | (refine WkS.pure (m := 0) (k := 7) (v := _) rfl (by rfl) (fun wv => by go_simp; try with_reducible rfl) ?_) | (refine WkS.step (m := 0) (k := 7) (v := _) rfl (by rfl) (by kernel_rfl) (fun wv hS => by obtain ⟨s0, s1, s2, s3, s4, s5, s6, s7, s8⟩ := hS; go_simp; try with_reducible rfl) ?_)
          try simp only [Act.put, List.getElem_toArray, List.getElem_cons_succ, List.getElem_cons_zero, List.setIfInBounds_toArray, List.set_cons_zero, List.set_cons_succ]
          refine WkS.done fun wE hE => ?_
          clear k0 k1 u0 u1 u2 u3 q0 cg
          obtain ⟨mE, k0, k1, u0, u1, u2, u3, q0, cg⟩ := hE
          have zE0 := mE.size
          change wpSoft _ _ _ _ 9 1 _ _
          refine wpSoft.value (n := 0) (w1 := (wE.alloc (Obj.cells #[Value.int .i64 0, Value.int .i64 0] 106))) _ rfl (by rfl) (by go_simp; first | done | exact ⟨rfl, rfl⟩ | with_reducible rfl) ⟨mE.trans (Mk.alloc wE (Obj.cells #[Value.int .i64 0, Value.int .i64 0] 106)), (Mk.alloc wE (Obj.cells #[Value.int .i64 0, Value.int .i64 0] 106)).cellAt k0, (Mk.alloc wE (Obj.cells #[Value.int .i64 0, Value.int .i64 0] 106)).cellAt k1, (Mk.alloc wE (Obj.cells #[Value.int .i64 0, Value.int .i64 0] 106)).cellAt u0, (Mk.alloc wE (Obj.cells #[Value.int .i64 0, Value.int .i64 0] 106)).cellAt u1, (Mk.alloc wE (Obj.cells #[Value.int .i64 0, Value.int .i64 0] 106)).cellAt u2, (Mk.alloc wE (Obj.cells #[Value.int .i64 0, Value.int .i64 0] 106)).cellAt u3, (Mk.alloc wE (Obj.cells #[Value.int .i64 0, Value.int .i64 0] 106)).cellAt q0, (Mk.alloc wE (Obj.cells #[Value.int .i64 0, Value.int .i64 0] 106)).cellAt cg⟩ ?_
          have v0 : (wE.alloc (Obj.cells #[Value.int .i64 0, Value.int .i64 0] 106)).cell? ⟨wE.heap.size, 0, none⟩ = some (.int .i64 0) := by simp [go_sem]
          have v1 : (wE.alloc (Obj.cells #[Value.int .i64 0, Value.int .i64 0] 106)).cell? ⟨wE.heap.size, 1, none⟩ = some (.int .i64 0) := by simp [go_sem]
          have fv : ∀ q, (wE.alloc (Obj.cells #[Value.int .i64 0, Value.int .i64 0] 106)).frozen? ⟨wE.heap.size, q, none⟩ = false := fun q => by simp [go_sem]
          intro wG0 mG0 hG0
          clear mE k0 k1 u0 u1 u2 u3 q0 cg
          obtain ⟨mE, k0, k1, u0, u1, u2, u3, q0, cg⟩ := hG0
          replace v0 := mG0.cellAt v0
          replace v1 := mG0.cellAt v1
          replace fv := fun q => (mG0.frozen (b := wE.heap.size) (o := q) (by rw [World.size_alloc]; omega) (.inr (Nat.zero_le _))).trans (fv q)
          try simp only [Act.put, List.getElem_toArray, List.getElem_cons_succ, List.getElem_cons_zero, List.setIfInBounds_toArray, List.set_cons_zero, List.set_cons_succ]
          refine wpSoft.done ?_
          simp only [List.drop_succ_cons, List.drop_zero]
          go_wp2_with fail
          try simp only [noPan]
          try (go_wp2_with fail)
          have hbe : w.heap.size + 1 < wE.heap.size := by simp only [World.size_alloc] at zE0; omega
          replace k0 := cell_set (cell_set k0 ⟨wE.heap.size, 0, none⟩ (.int .i64 x.nd) (.inl (show wE.heap.size ≠ w.heap.size from by omega))) ⟨wE.heap.size, 1, none⟩ (.int .i64 g) (.inl (show wE.heap.size ≠ w.heap.size from by omega))
          replace k1 := cell_set (cell_set k1 ⟨wE.heap.size, 0, none⟩ (.int .i64 x.nd) (.inl (show wE.heap.size ≠ w.heap.size from by omega))) ⟨wE.heap.size, 1, none⟩ (.int .i64 g) (.inl (show wE.heap.size ≠ w.heap.size from by omega))
          replace u0 := cell_set (cell_set u0 ⟨wE.heap.size, 0, none⟩ (.int .i64 x.nd) (.inl (show wE.heap.size ≠ w.heap.size + 1 from by omega))) ⟨wE.heap.size, 1, none⟩ (.int .i64 g) (.inl (show wE.heap.size ≠ w.heap.size + 1 from by omega))
          replace u1 := cell_set (cell_set u1 ⟨wE.heap.size, 0, none⟩ (.int .i64 x.nd) (.inl (show wE.heap.size ≠ w.heap.size + 1 from by omega))) ⟨wE.heap.size, 1, none⟩ (.int .i64 g) (.inl (show wE.heap.size ≠ w.heap.size + 1 from by omega))
          replace u2 := cell_set (cell_set u2 ⟨wE.heap.size, 0, none⟩ (.int .i64 x.nd) (.inl (show wE.heap.size ≠ w.heap.size + 1 from by omega))) ⟨wE.heap.size, 1, none⟩ (.int .i64 g) (.inl (show wE.heap.size ≠ w.heap.size + 1 from by omega))
          replace v0 := cell_set (World.cell?_setCell_same _ _ (.int .i64 x.nd) v0) ⟨wE.heap.size, 1, none⟩ (.int .i64 g) (.inr (by simp))
          replace v1 := World.cell?_setCell_same _ _ (.int .i64 g) (cell_set v1 ⟨wE.heap.size, 0, none⟩ (.int .i64 x.nd) (.inr (by simp)))
          have MV := ((hMX.trans mE).put ⟨wE.heap.size, 0, none⟩ (.int .i64 x.nd) (by show WW.heap.size ≤ wE.heap.size; omega)).put ⟨wE.heap.size, 1, none⟩ (.int .i64 g) (by show WW.heap.size ≤ wE.heap.size; omega)
          have MVW := M0.trans MV
          generalize ((wG0.setCell ⟨wE.heap.size, 0, none⟩ (.int .i64 x.nd)).setCell ⟨wE.heap.size, 1, none⟩ (.int .i64 g)) = wV at *
          clear u3 q0 cg mE
          refine wp_region_wks (fun w' => Mk0 wV w' ∧ w'.cell? ⟨w.heap.size, 0, none⟩ = some (.slice a0 n0 c0) ∧ w'.cell? ⟨w.heap.size, 1, none⟩ = some (.slice a1 n1 c1) ∧ w'.cell? ⟨w.heap.size + 1, 0, none⟩ = some (.int .i64 x0) ∧ w'.cell? ⟨w.heap.size + 1, 1, none⟩ = some (.int .i64 x1) ∧ w'.cell? ⟨w.heap.size + 1, 2, none⟩ = some (.slice (some ⟨b, off, none⟩) n c) ∧ w'.cell? ⟨wE.heap.size, 0, none⟩ = some (.int .i64 x.nd) ∧ w'.cell? ⟨wE.heap.size, 1, none⟩ = some (.int .i64 g)) 6 8 (by kernel_rfl) (by kernel_rfl) (by kernel_rfl) (by decide) (by decide) (⟨Mk.drew1 _, k0, k1, u0, u1, u2, v0, v1⟩) ?_
          change WkS _ _ _ _ _ _ 6 0 _
          first | (refine WkS.skip (m := 5) (k := 0) rfl (by rfl) ?_) | (refine WkS.pure (m := 5) (k := 0) (v := _) rfl (by rfl) (fun wv => by go_simp; try with_reducible rfl) ?_) | (refine WkS.step (m := 5) (k := 0) (v := _) rfl (by rfl) (by kernel_rfl) (fun wv hS => by obtain ⟨s0, s1, s2, s3, s4, s5, s6, s7⟩ := hS; go_simp; try with_reducible rfl) ?_)
          try simp only [Act.put, List.getElem_toArray, List.getElem_cons_zero, List.setIfInBounds_toArray, List.set_cons_zero, List.set_cons_succ]
          first | (refine WkS.skip (m := 4) (k := 1) rfl (by rfl) ?_) | (refine WkS.pure (m := 4) (k := 1) (v := _) rfl (by rfl) (fun wv => by go_simp; try with_reducible rfl) ?_) | (refine WkS.step (m := 4) (k := 1) (v := _) rfl (by rfl) (by kernel_rfl) (fun wv hS => by obtain ⟨s0, s1, s2, s3, s4, s5, s6, s7⟩ := hS; go_simp; try with_reducible rfl) ?_)
          try simp only [Act.put, List.getElem_toArray, List.getElem_cons_succ, List.getElem_cons_zero, List.setIfInBounds_toArray, List.set_cons_zero, List.set_cons_succ]
          first | (refine WkS.skip (m := 3) (k := 2) rfl (by rfl) ?_) | (refine WkS.pure (m := 3) (k := 2) (v := _) rfl (by rfl) (fun wv => by go_simp; try with_reducible rfl) ?_) | (refine WkS.step (m := 3) (k := 2) (v := _) rfl (by rfl) (by kernel_rfl) (fun wv hS => by obtain ⟨s0, s1, s2, s3, s4, s5, s6, s7⟩ := hS; go_simp; try with_reducible rfl) ?_)
          try simp only [Act.put, List.getElem_toArray, List.getElem_cons_succ, List.getElem_cons_zero, List.setIfInBounds_toArray, List.set_cons_zero, List.set_cons_succ]
          first | (refine WkS.skip (m := 2) (k := 3) rfl (by rfl) ?_) | (refine WkS.pure (m := 2) (k := 3) (v := _) rfl (by rfl) (fun wv => by go_simp; try with_reducible rfl) ?_) | (refine WkS.step (m := 2) (k := 3) (v := _) rfl (by rfl) (by kernel_rfl) (fun wv hS => by obtain ⟨s0, s1, s2, s3, s4, s5, s6, s7⟩ := hS; go_simp; try with_reducible rfl) ?_)
          try simp only [Act.put, List.getElem_toArray, List.getElem_cons_succ, List.getElem_cons_zero, List.setIfInBounds_toArray, List.set_cons_zero, List.set_cons_succ]
          first | (refine WkS.skip (m := 1) (k := 4) rfl (by rfl) ?_) | (refine WkS.pure (m := 1) (k := 4) (v := _) rfl (by rfl) (fun wv => by go_simp; try with_reducible rfl) ?_) | (refine WkS.step (m := 1) (k := 4) (v := _) rfl (by rfl) (by kernel_rfl) (fun wv hS => by obtain ⟨s0, s1, s2, s3, s4, s5, s6, s7⟩ := hS; go_simp; try with_reducible rfl) ?_)
          try simp only [Act.put, List.getElem_toArray, List.getElem_cons_succ, List.getElem_cons_zero, List.setIfInBounds_toArray, List.set_cons_zero, List.set_cons_succ]
          first | (refine WkS.skip (m := 0) (k := 5) rfl (by rfl) ?_) | (refine WkS.pure (m := 0) (k := 5) (v := _) rfl (by rfl) (fun wv => by go_simp; try with_reducible rfl) ?_) | (refine WkS.step (m := 0) (k := 5) (v := _) rfl (by rfl) (by kernel_rfl) (fun wv hS => by obtain ⟨s0, s1, s2, s3, s4, s5, s6, s7⟩ := hS; go_simp; try with_reducible rfl) ?_)
          try simp only [Act.put, List.getElem_toArray, List.getElem_cons_succ, List.getElem_cons_zero, List.setIfInBounds_toArray, List.set_cons_zero, List.set_cons_succ]
          refine WkS.done fun wEI hEI => ?_
          clear k0 k1 u0 u1 u2 v0 v1
          obtain ⟨mEI, k0, k1, u0, u1, u2, v0, v1⟩ := hEI
          have zE0I := mEI.size
          change wpSoft _ _ _ _ 8 2 _ _
          refine wpSoft.call (n := 1) _ _ rfl (by rfl) (by go_simp; first | done | exact ⟨rfl, rfl⟩ | with_reducible rfl) ?_
          refine (implSHData x0 x1 (some ⟨b, off, none⟩) n c B' hs k _ (h.mk (MVW.trans mEI) hB' (.inr (Nat.le_refl _))) (Nat.le_trans hB' (MVW.trans mEI).size) hn HC.out hlt).mono ?_
          rintro e wF0I ⟨A, N, C, rfl, hA2, hO, bb⟩
          refine ⟨_, rfl, ⟨mEI.trans ((Mk.of_below bb)), ((Mk.of_below bb)).cellAt k0, ((Mk.of_below bb)).cellAt k1, ((Mk.of_below bb)).cellAt u0, ((Mk.of_below bb)).cellAt u1, ((Mk.of_below bb)).cellAt u2, ((Mk.of_below bb)).cellAt v0, ((Mk.of_below bb)).cellAt v1⟩, ?_⟩
          intro wG0I mG0I hG0I
          clear mEI k0 k1 u0 u1 u2 v0 v1
          obtain ⟨mEI, k0, k1, u0, u1, u2, v0, v1⟩ := hG0I
          rw [← hL.out] at hO
          obtain rfl : dsz k = N := HL.out.symm.trans hO.1
          have hD := ((hO.toR (hi := wF0I.heap.size) (Nat.le_refl _)).has.mk mG0I (Nat.le_refl _) (.inr (Nat.le_refl _))).mono mG0I.size
          try simp only [Act.put, List.getElem_toArray, List.getElem_cons_succ, List.getElem_cons_zero, List.setIfInBounds_toArray, List.set_cons_zero, List.set_cons_succ]
          change wpSoft _ _ _ _ 8 1 _ _
          refine wpSoft.call (n := 0) _ _ rfl (by rfl) (by go_simp; first | done | exact ⟨rfl, rfl⟩ | with_reducible rfl) ?_
          refine (implVerS a0 a1 n0 c0 n1 c1 B zs ⟨x.nd, g⟩ A (dsz k) C wG0I.heap.size L _ (hA.mk (MVW.trans mEI) hB (.inr (Nat.le_refl _))) (Nat.le_trans hB (MVW.trans mEI).size) hn0 HZ.out (hasR_int.1 hD) (Nat.le_refl _) hdn hA2 HDF.out).mono ?_
          rintro e wF1I ⟨he, mv⟩
          rw [HVV.out] at he
          subst he
          refine ⟨_, rfl, ⟨mEI.trans (mv), (mv).cellAt k0, (mv).cellAt k1, (mv).cellAt u0, (mv).cellAt u1, (mv).cellAt u2, (mv).cellAt v0, (mv).cellAt v1⟩, ?_⟩
          intro wG1I mG1I hG1I
          clear mEI k0 k1 u0 u1 u2 v0 v1
          obtain ⟨mEI, k0, k1, u0, u1, u2, v0, v1⟩ := hG1I
          try simp only [Act.put, List.getElem_toArray, List.getElem_cons_succ, List.getElem_cons_zero, List.setIfInBounds_toArray, List.set_cons_zero, List.set_cons_succ]
          refine wpSoft.done ?_
          simp only [List.drop_succ_cons, List.drop_zero]
          go_wp2_with fail
          try simp only [noPan]
          try (go_wp2_with fail)
          go_ret
          exact ⟨retI HE.out.symm, MVW.trans mEI⟩
        · have HVV := Lib.hid hv
          clear hv
          have HE := Lib.hid (show fbV zs n0 x0 x1 hs n gs n3 = fbN (badS zs n0 x0 x1 hs n gs n3) n (n - (k + 1)) by rw [hS.out]; exact fbN_go hlt (by rw [HV.out, HVV.out]; rfl))
          have MX := Mk.alloc wr (Obj.cells #[Value.int .i64 x.nd, Value.int .i64 x.ing, Value.int .i64 x.eg, Value.int .i64 x.exp, Value.int .i64 x.mac] 24)
          have q0 : (wr.alloc (Obj.cells #[Value.int .i64 x.nd, Value.int .i64 x.ing, Value.int .i64 x.eg, Value.int .i64 x.exp, Value.int .i64 x.mac] 24)).cell? ⟨wr.heap.size, 0, none⟩ = some (.int .i64 x.nd) := by simp [go_sem]
          replace k0 := MX.cellAt k0
          replace k1 := MX.cellAt k1
          replace u0 := MX.cellAt u0
          replace u1 := MX.cellAt u1
          replace u2 := MX.cellAt u2
          replace u3 := MX.cellAt u3
          replace cg := MX.cellAt cg
          have hMX := hM.trans MX
          have hMWX := hMW.trans MX
          go_wp2_with fail
          refine wp_region_wks (fun w' => Mk0 (wr.alloc (Obj.cells #[Value.int .i64 x.nd, Value.int .i64 x.ing, Value.int .i64 x.eg, Value.int .i64 x.exp, Value.int .i64 x.mac] 24)) w' ∧ w'.cell? ⟨w.heap.size, 0, none⟩ = some (.slice a0 n0 c0) ∧ w'.cell? ⟨w.heap.size, 1, none⟩ = some (.slice a1 n1 c1) ∧ w'.cell? ⟨w.heap.size + 1, 0, none⟩ = some (.int .i64 x0) ∧ w'.cell? ⟨w.heap.size + 1, 1, none⟩ = some (.int .i64 x1) ∧ w'.cell? ⟨w.heap.size + 1, 2, none⟩ = some (.slice (some ⟨b, off, none⟩) n c) ∧ w'.cell? ⟨w.heap.size + 1, 3, none⟩ = some (.slice (some ⟨bg, og, none⟩) n3 c3) ∧ w'.cell? ⟨wr.heap.size, 0, none⟩ = some (.int .i64 x.nd) ∧ w'.cell? ⟨bg, og + k, none⟩ = some (.int .i64 g)) 8 9 (by kernel_rfl) (by kernel_rfl) (by kernel_rfl) (by decide) (by decide) (⟨Mk.drew1 _, k0, k1, u0, u1, u2, u3, q0, cg⟩) ?_
          change WkS _ _ _ _ _ _ 8 0 _
          first | (refine WkS.skip (m := 7) (k := 0) rfl (by rfl) ?_) | (refine WkS.pure (m := 7) (k := 0) (v := _) rfl (by rfl) (fun wv => by go_simp; try with_reducible rfl) ?_) | (refine WkS.step (m := 7) (k := 0) (v := _) rfl (by rfl) (by kernel_rfl) (fun wv hS => by obtain ⟨s0, s1, s2, s3, s4, s5, s6, s7, s8⟩ := hS; go_simp; try with_reducible rfl) ?_)
          try simp only [Act.put, List.getElem_toArray, List.getElem_cons_zero, List.setIfInBounds_toArray, List.set_cons_zero, List.set_cons_succ]
          first | (refine WkS.skip (m := 6) (k := 1) rfl (by rfl) ?_) | (refine WkS.pure (m := 6) (k := 1) (v := _) rfl (by rfl) (fun wv => by go_simp; try with_reducible rfl) ?_) | (refine WkS.step (m := 6) (k := 1) (v := _) rfl (by rfl) (by kernel_rfl) (fun wv hS => by obtain ⟨s0, s1, s2, s3, s4, s5, s6, s7, s8⟩ := hS; go_simp; try with_reducible rfl) ?_)
          try simp only [Act.put, List.getElem_toArray, List.getElem_cons_succ, List.getElem_cons_zero, List.setIfInBounds_toArray, List.set_cons_zero, List.set_cons_succ]
          first | (refine WkS.skip (m := 5) (k := 2) rfl (by rfl) ?_) | (refine WkS.pure (m := 5) (k := 2) (v := _) rfl (by rfl) (fun wv => by go_simp; try with_reducible rfl) ?_) | (refine WkS.step (m := 5) (k := 2) (v := _) rfl (by rfl) (by kernel_rfl) (fun wv hS => by obtain ⟨s0, s1, s2, s3, s4, s5, s6, s7, s8⟩ := hS; go_simp; try with_reducible rfl) ?_)
          try simp only [Act.put, List.getElem_toArray, List.getElem_cons_succ, List.getElem_cons_zero, List.setIfInBounds_toArray, List.set_cons_zero, List.set_cons_succ]
          first | (refine WkS.skip (m := 4) (k := 3) rfl (by rfl) ?_) | (refine WkS.pure (m := 4) (k := 3) (v := _) rfl (by rfl) (fun wv => by go_simp; try with_reducible rfl) ?_) | (refine WkS.step (m := 4) (k := 3) (v := _) rfl (by rfl) (by kernel_rfl) (fun wv hS => by obtain ⟨s0, s1, s2, s3, s4, s5, s6, s7, s8⟩ := hS; go_simp; try with_reducible rfl) ?_)
          try simp only [Act.put, List.getElem_toArray, List.getElem_cons_succ, List.getElem_cons_zero, List.setIfInBounds_toArray, List.set_cons_zero, List.set_cons_succ]
          first | (refine WkS.skip (m := 3) (k := 4) rfl (by rfl) ?_) | (refine WkS.pure (m := 3) (k := 4) (v := _) rfl (by rfl) (fun wv => by go_simp; try with_reducible rfl) ?_) | (refine WkS.step (m := 3) (k := 4) (v := _) rfl (by rfl) (by kernel_rfl) (fun wv hS => by obtain ⟨s0, s1, s2, s3, s4, s5, s6, s7, s8⟩ := hS; go_simp; try with_reducible rfl) ?_)
          try simp only [Act.put, List.getElem_toArray, List.getElem_cons_succ, List.getElem_cons_zero, List.setIfInBounds_toArray, List.set_cons_zero, List.set_cons_succ]
          first | (refine WkS.skip (m := 2) (k := 5) rfl (by rfl) ?_) | (refine WkS.pure (m := 2) (k := 5) (v := _) rfl (by rfl) (fun wv => by go_simp; try with_reducible rfl) ?_) | (refine WkS.step (m := 2) (k := 5) (v := _) rfl (by rfl) (by kernel_rfl) (fun wv hS => by obtain ⟨s0, s1, s2, s3, s4, s5, s6, s7, s8⟩ := hS; go_simp; try with_reducible rfl) ?_)
          try simp only [Act.put, List.getElem_toArray, List.getElem_cons_succ, List.getElem_cons_zero, List.setIfInBounds_toArray, List.set_cons_zero, List.set_cons_succ]
          first | (refine WkS.skip (m := 1) (k := 6) rfl (by rfl) ?_) | (refine WkS.pure (m := 1) (k := 6) (v := _) rfl (by rfl) (fun wv => by go_simp; try with_reducible rfl) ?_) | (refine WkS.step (m := 1) (k := 6) (v := _) rfl (by rfl) (by kernel_rfl) (fun wv hS => by obtain ⟨s0, s1, s2, s3, s4, s5, s6, s7, s8⟩ := hS; go_simp; try with_reducible rfl) ?_)
          try simp only [Act.put, List.getElem_toArray, List.getElem_cons_succ, List.getElem_cons_zero, List.setIfInBounds_toArray, List.set_cons_zero, List.set_cons_succ]
          first | (refine WkS.skip (m := 0) (k := 7) rfl (by rfl) ?_) | (refine WkS.pure (m := 0) (k := 7) (v := _) rfl (by rfl) (fun wv => by go_simp; try with_reducible rfl) ?_) | (refine WkS.step (m := 0) (k := 7) (v := _) rfl (by rfl) (by kernel_rfl) (fun wv hS => by obtain ⟨s0, s1, s2, s3, s4, s5, s6, s7, s8⟩ := hS; go_simp; try with_reducible rfl) ?_)
          try simp only [Act.put, List.getElem_toArray, List.getElem_cons_succ, List.getElem_cons_zero, List.setIfInBounds_toArray, List.set_cons_zero, List.set_cons_succ]
          refine WkS.done fun wE hE => ?_
          clear k0 k1 u0 u1 u2 u3 q0 cg
          obtain ⟨mE, k0, k1, u0, u1, u2, u3, q0, cg⟩ := hE
          have zE0 := mE.size
          change wpSoft _ _ _ _ 9 1 _ _
          refine wpSoft.value (n := 0) (w1 := (wE.alloc (Obj.cells #[Value.int .i64 0, Value.int .i64 0] 106))) _ rfl (by rfl) (by go_simp; first | done | exact ⟨rfl, rfl⟩ | with_reducible rfl) ⟨mE.trans (Mk.alloc wE (Obj.cells #[Value.int .i64 0, Value.int .i64 0] 106)), (Mk.alloc wE (Obj.cells #[Value.int .i64 0, Value.int .i64 0] 106)).cellAt k0, (Mk.alloc wE (Obj.cells #[Value.int .i64 0, Value.int .i64 0] 106)).cellAt k1, (Mk.alloc wE (Obj.cells #[Value.int .i64 0, Value.int .i64 0] 106)).cellAt u0, (Mk.alloc wE (Obj.cells #[Value.int .i64 0, Value.int .i64 0] 106)).cellAt u1, (Mk.alloc wE (Obj.cells #[Value.int .i64 0, Value.int .i64 0] 106)).cellAt u2, (Mk.alloc wE (Obj.cells #[Value.int .i64 0, Value.int .i64 0] 106)).cellAt u3, (Mk.alloc wE (Obj.cells #[Value.int .i64 0, Value.int .i64 0] 106)).cellAt q0, (Mk.alloc wE (Obj.cells #[Value.int .i64 0, Value.int .i64 0] 106)).cellAt cg⟩ ?_
          have v0 : (wE.alloc (Obj.cells #[Value.int .i64 0, Value.int .i64 0] 106)).cell? ⟨wE.heap.size, 0, none⟩ = some (.int .i64 0) := by simp [go_sem]
          have v1 : (wE.alloc (Obj.cells #[Value.int .i64 0, Value.int .i64 0] 106)).cell? ⟨wE.heap.size, 1, none⟩ = some (.int .i64 0) := by simp [go_sem]
          have fv : ∀ q, (wE.alloc (Obj.cells #[Value.int .i64 0, Value.int .i64 0] 106)).frozen? ⟨wE.heap.size, q, none⟩ = false := fun q => by simp [go_sem]
          intro wG0 mG0 hG0
          clear mE k0 k1 u0 u1 u2 u3 q0 cg
          obtain ⟨mE, k0, k1, u0, u1, u2, u3, q0, cg⟩ := hG0
          replace v0 := mG0.cellAt v0
          replace v1 := mG0.cellAt v1
          replace fv := fun q => (mG0.frozen (b := wE.heap.size) (o := q) (by rw [World.size_alloc]; omega) (.inr (Nat.zero_le _))).trans (fv q)
          try simp only [Act.put, List.getElem_toArray, List.getElem_cons_succ, List.getElem_cons_zero, List.setIfInBounds_toArray, List.set_cons_zero, List.set_cons_succ]
          refine wpSoft.done ?_
          simp only [List.drop_succ_cons, List.drop_zero]
          go_wp2_with fail
          try simp only [noPan]
          try (go_wp2_with fail)
          have hbe : w.heap.size + 1 < wE.heap.size := by simp only [World.size_alloc] at zE0; omega
          replace k0 := cell_set (cell_set k0 ⟨wE.heap.size, 0, none⟩ (.int .i64 x.nd) (.inl (show wE.heap.size ≠ w.heap.size from by omega))) ⟨wE.heap.size, 1, none⟩ (.int .i64 g) (.inl (show wE.heap.size ≠ w.heap.size from by omega))
          replace k1 := cell_set (cell_set k1 ⟨wE.heap.size, 0, none⟩ (.int .i64 x.nd) (.inl (show wE.heap.size ≠ w.heap.size from by omega))) ⟨wE.heap.size, 1, none⟩ (.int .i64 g) (.inl (show wE.heap.size ≠ w.heap.size from by omega))
          replace u0 := cell_set (cell_set u0 ⟨wE.heap.size, 0, none⟩ (.int .i64 x.nd) (.inl (show wE.heap.size ≠ w.heap.size + 1 from by omega))) ⟨wE.heap.size, 1, none⟩ (.int .i64 g) (.inl (show wE.heap.size ≠ w.heap.size + 1 from by omega))
          replace u1 := cell_set (cell_set u1 ⟨wE.heap.size, 0, none⟩ (.int .i64 x.nd) (.inl (show wE.heap.size ≠ w.heap.size + 1 from by omega))) ⟨wE.heap.size, 1, none⟩ (.int .i64 g) (.inl (show wE.heap.size ≠ w.heap.size + 1 from by omega))
          replace u2 := cell_set (cell_set u2 ⟨wE.heap.size, 0, none⟩ (.int .i64 x.nd) (.inl (show wE.heap.size ≠ w.heap.size + 1 from by omega))) ⟨wE.heap.size, 1, none⟩ (.int .i64 g) (.inl (show wE.heap.size ≠ w.heap.size + 1 from by omega))
          replace v0 := cell_set (World.cell?_setCell_same _ _ (.int .i64 x.nd) v0) ⟨wE.heap.size, 1, none⟩ (.int .i64 g) (.inr (by simp))
          replace v1 := World.cell?_setCell_same _ _ (.int .i64 g) (cell_set v1 ⟨wE.heap.size, 0, none⟩ (.int .i64 x.nd) (.inr (by simp)))
          have MV := ((hMX.trans mE).put ⟨wE.heap.size, 0, none⟩ (.int .i64 x.nd) (by show WW.heap.size ≤ wE.heap.size; omega)).put ⟨wE.heap.size, 1, none⟩ (.int .i64 g) (by show WW.heap.size ≤ wE.heap.size; omega)
          have MVW := M0.trans MV
          generalize ((wG0.setCell ⟨wE.heap.size, 0, none⟩ (.int .i64 x.nd)).setCell ⟨wE.heap.size, 1, none⟩ (.int .i64 g)) = wV at *
          clear u3 q0 cg mE
          refine wp_region_wks (fun w' => Mk0 wV w' ∧ w'.cell? ⟨w.heap.size, 0, none⟩ = some (.slice a0 n0 c0) ∧ w'.cell? ⟨w.heap.size, 1, none⟩ = some (.slice a1 n1 c1) ∧ w'.cell? ⟨w.heap.size + 1, 0, none⟩ = some (.int .i64 x0) ∧ w'.cell? ⟨w.heap.size + 1, 1, none⟩ = some (.int .i64 x1) ∧ w'.cell? ⟨w.heap.size + 1, 2, none⟩ = some (.slice (some ⟨b, off, none⟩) n c) ∧ w'.cell? ⟨wE.heap.size, 0, none⟩ = some (.int .i64 x.nd) ∧ w'.cell? ⟨wE.heap.size, 1, none⟩ = some (.int .i64 g)) 6 8 (by kernel_rfl) (by kernel_rfl) (by kernel_rfl) (by decide) (by decide) (⟨Mk.drew1 _, k0, k1, u0, u1, u2, v0, v1⟩) ?_
          change WkS _ _ _ _ _ _ 6 0 _
          first | (refine WkS.skip (m := 5) (k := 0) rfl (by rfl) ?_) | (refine WkS.pure (m := 5) (k := 0) (v := _) rfl (by rfl) (fun wv => by go_simp; try with_reducible rfl) ?_) | (refine WkS.step (m := 5) (k := 0) (v := _) rfl (by rfl) (by kernel_rfl) (fun wv hS => by obtain ⟨s0, s1, s2, s3, s4, s5, s6, s7⟩ := hS; go_simp; try with_reducible rfl) ?_)
          try simp only [Act.put, List.getElem_toArray, List.getElem_cons_zero, List.setIfInBounds_toArray, List.set_cons_zero, List.set_cons_succ]
          first | (refine WkS.skip (m := 4) (k := 1) rfl (by rfl) ?_) | (refine WkS.pure (m := 4) (k := 1) (v := _) rfl (by rfl) (fun wv => by go_simp; try with_reducible rfl) ?_) | (refine WkS.step (m := 4) (k := 1) (v := _) rfl (by rfl) (by kernel_rfl) (fun wv hS => by obtain ⟨s0, s1, s2, s3, s4, s5, s6, s7⟩ := hS; go_simp; try with_reducible rfl) ?_)
          try simp only [Act.put, List.getElem_toArray, List.getElem_cons_succ, List.getElem_cons_zero, List.setIfInBounds_toArray, List.set_cons_zero, List.set_cons_succ]
          first | (refine WkS.skip (m := 3) (k := 2) rfl (by rfl) ?_) | (refine WkS.pure (m := 3) (k := 2) (v := _) rfl (by rfl) (fun wv => by go_simp; try with_reducible rfl) ?_) | (refine WkS.step (m := 3) (k := 2) (v := _) rfl (by rfl) (by kernel_rfl) (fun wv hS => by obtain ⟨s0, s1, s2, s3, s4, s5, s6, s7⟩ := hS; go_simp; try with_reducible rfl) ?_)
          try simp only [Act.put, List.getElem_toArray, List.getElem_cons_succ, List.getElem_cons_zero, List.setIfInBounds_toArray, List.set_cons_zero, List.set_cons_succ]
          first | (refine WkS.skip (m := 2) (k := 3) rfl (by rfl) ?_) | (refine WkS.pure (m := 2) (k := 3) (v := _) rfl (by rfl) (fun wv => by go_simp; try with_reducible rfl) ?_) | (refine WkS.step (m := 2) (k := 3) (v := _) rfl (by rfl) (by kernel_rfl) (fun wv hS => by obtain ⟨s0, s1, s2, s3, s4, s5, s6, s7⟩ := hS; go_simp; try with_reducible rfl) ?_)
          try simp only [Act.put, List.getElem_toArray, List.getElem_cons_succ, List.getElem_cons_zero, List.setIfInBounds_toArray, List.set_cons_zero, List.set_cons_succ]
          first | (refine WkS.skip (m := 1) (k := 4) rfl (by rfl) ?_) | (refine WkS.pure (m := 1) (k := 4) (v := _) rfl (by rfl) (fun wv => by go_simp; try with_reducible rfl) ?_) | (refine WkS.step (m := 1) (k := 4) (v := _) rfl (by rfl) (by kernel_rfl) (fun wv hS => by obtain ⟨s0, s1, s2, s3, s4, s5, s6, s7⟩ := hS; go_simp; try with_reducible rfl) ?_)
          try simp only [Act.put, List.getElem_toArray, List.getElem_cons_succ, List.getElem_cons_zero, List.setIfInBounds_toArray, List.set_cons_zero, List.set_cons_succ]
          first | (refine WkS.skip (m := 0) (k := 5) rfl (by rfl) ?_) | (refine WkS.pure (m := 0) (k := 5) (v := _) rfl (by rfl) (fun wv => by go_simp; try with_reducible rfl) ?_) | (refine WkS.step (m := 0) (k := 5) (v := _) rfl (by rfl) (by kernel_rfl) (fun wv hS => by obtain ⟨s0, s1, s2, s3, s4, s5, s6, s7⟩ := hS; go_simp; try with_reducible rfl) ?_)
          try simp only [Act.put, List.getElem_toArray, List.getElem_cons_succ, List.getElem_cons_zero, List.setIfInBounds_toArray, List.set_cons_zero, List.set_cons_succ]
          refine WkS.done fun wEI hEI => ?_
          clear k0 k1 u0 u1 u2 v0 v1
          obtain ⟨mEI, k0, k1, u0, u1, u2, v0, v1⟩ := hEI
          have zE0I := mEI.size
          change wpSoft _ _ _ _ 8 2 _ _
          refine wpSoft.call (n := 1) _ _ rfl (by rfl) (by go_simp; first | done | exact ⟨rfl, rfl⟩ | with_reducible rfl) ?_
          refine (implSHData x0 x1 (some ⟨b, off, none⟩) n c B' hs k _ (h.mk (MVW.trans mEI) hB' (.inr (Nat.le_refl _))) (Nat.le_trans hB' (MVW.trans mEI).size) hn HC.out hlt).mono ?_
          rintro e wF0I ⟨A, N, C, rfl, hA2, hO, bb⟩
          refine ⟨_, rfl, ⟨mEI.trans ((Mk.of_below bb)), ((Mk.of_below bb)).cellAt k0, ((Mk.of_below bb)).cellAt k1, ((Mk.of_below bb)).cellAt u0, ((Mk.of_below bb)).cellAt u1, ((Mk.of_below bb)).cellAt u2, ((Mk.of_below bb)).cellAt v0, ((Mk.of_below bb)).cellAt v1⟩, ?_⟩
          intro wG0I mG0I hG0I
          clear mEI k0 k1 u0 u1 u2 v0 v1
          obtain ⟨mEI, k0, k1, u0, u1, u2, v0, v1⟩ := hG0I
          rw [← hL.out] at hO
          obtain rfl : dsz k = N := HL.out.symm.trans hO.1
          have hD := ((hO.toR (hi := wF0I.heap.size) (Nat.le_refl _)).has.mk mG0I (Nat.le_refl _) (.inr (Nat.le_refl _))).mono mG0I.size
          try simp only [Act.put, List.getElem_toArray, List.getElem_cons_succ, List.getElem_cons_zero, List.setIfInBounds_toArray, List.set_cons_zero, List.set_cons_succ]
          change wpSoft _ _ _ _ 8 1 _ _
          refine wpSoft.call (n := 0) _ _ rfl (by rfl) (by go_simp; first | done | exact ⟨rfl, rfl⟩ | with_reducible rfl) ?_
          refine (implVerS a0 a1 n0 c0 n1 c1 B zs ⟨x.nd, g⟩ A (dsz k) C wG0I.heap.size L _ (hA.mk (MVW.trans mEI) hB (.inr (Nat.le_refl _))) (Nat.le_trans hB (MVW.trans mEI).size) hn0 HZ.out (hasR_int.1 hD) (Nat.le_refl _) hdn hA2 HDF.out).mono ?_
          rintro e wF1I ⟨he, mv⟩
          rw [HVV.out] at he
          subst he
          refine ⟨_, rfl, ⟨mEI.trans (mv), (mv).cellAt k0, (mv).cellAt k1, (mv).cellAt u0, (mv).cellAt u1, (mv).cellAt u2, (mv).cellAt v0, (mv).cellAt v1⟩, ?_⟩
          intro wG1I mG1I hG1I
          clear mEI k0 k1 u0 u1 u2 v0 v1
          obtain ⟨mEI, k0, k1, u0, u1, u2, v0, v1⟩ := hG1I
          try simp only [Act.put, List.getElem_toArray, List.getElem_cons_succ, List.getElem_cons_zero, List.setIfInBounds_toArray, List.set_cons_zero, List.set_cons_succ]
          refine wpSoft.done ?_
          simp only [List.drop_succ_cons, List.drop_zero]
          go_wp2_with fail
          try simp only [noPan]
          try (go_wp2_with fail)
          go_roundw
          case rel => exact ⟨rfl, k + 1, by omega, by go_num, HE.out, MV.trans mEI⟩
          case measure => simp [intOf]; omega
    · obtain rfl : k = n := by omega
      go_wp2_with fail
      go_ret
      exact ⟨retI (by rw [hS.out, Nat.sub_self]; rfl), hMW⟩

end Go.Proofs.Ytiphndgmgpiodaa
