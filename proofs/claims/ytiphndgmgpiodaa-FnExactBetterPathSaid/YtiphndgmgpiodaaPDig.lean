
/- PathDigest of both sides. -/
import Derived.Test.YtiphndgmgpiodaaDig
import Derived.Test.YtiphndgmgpiodaaOPathPart
import Derived.Test.YtiphndgmgpiodaaStat
import Derived.Test.YtiphndgmgpiodaaRet
import Derived.Test.YtiphndgmgpiodaaStepA
import Derived.Test.YtiphndgmgpiodaaNPathPart
import Derived.Test.YtiphndgmgpiodaaWk
import Derived.Test.YtiphndgmgpiodaaWt
import Derived.Test.YtiphndgmgpiodaaInfo
import Derived.Test.YtiphndgmgpiodaaAppR
namespace Go.Proofs.Ytiphndgmgpiodaa
open Go.ChangeShapes Go.WideShapes Go.ChangeAt Go.RowKit
set_option linter.unusedVariables false
/-- The numbers that a digest of a path takes of hops; of the first k parts. -/
def h3N (hs : List THop) : Nat → List Int
  | 0 => []
  | k + 1 => h3N hs k ++ [(hs.getD k default).nd, (hs.getD k default).ing, (hs.getD k default).eg]
theorem h3N_len (hs : List THop) : ∀ k, (h3N hs k).length = 3 * k
  | 0 => rfl
  | k + 1 => by rw [h3N, List.length_append, h3N_len hs k]; rfl
def pdN (ps : List TPathPart) : Nat → List Int
  | 0 => []
  | k + 1 => pdN ps k ++ [(ps.getD k default).kind, (ps.getD k default).ts, (ps.getD k default).beta] ++ h3N (ps.getD k default).hops (ps.getD k default).hops.length
theorem pdN_len (ps : List TPathPart) : ∀ k, (pdN ps k).length = 3 * k + 3 * sumTo sePathPart ps k
  | 0 => rfl
  | k + 1 => by
    rw [pdN, List.length_append, List.length_append, pdN_len ps k, h3N_len, sumTo]
    simp only [List.length_cons, List.length_nil, sePathPart]
    omega
theorem getD_in {α : Type} [Inhabited α] {l : List α} {k : Nat} (h : k < l.length) : l.getD k default ∈ l := by
  rw [List.getD_eq_getElem?_getD, List.getElem?_eq_getElem h]
  exact List.getElem_mem _
theorem h3N_fits {hs : List THop} (hf : ∀ y ∈ hs, THop.fits y) : ∀ k, k ≤ hs.length → ∀ z ∈ h3N hs k, (Lit.int .i64 z).wf = true
  | 0, _, z, hz => by cases hz
  | k + 1, hk, z, hz => by
    have hy := hf _ (getD_in (l := hs) (k := k) (by omega))
    rw [h3N, List.mem_append] at hz
    rcases hz with hz | hz
    · exact h3N_fits hf k (by omega) z hz
    · simp only [List.mem_cons, List.not_mem_nil, or_false] at hz
      rcases hz with rfl | rfl | rfl
      · exact hy.1
      · exact hy.2.1
      · exact hy.2.2.1
theorem pdN_fits {ps : List TPathPart} (hf : ∀ y ∈ ps, TPathPart.fits y) : ∀ k, k ≤ ps.length → ∀ z ∈ pdN ps k, (Lit.int .i64 z).wf = true
  | 0, _, z, hz => by cases hz
  | k + 1, hk, z, hz => by
    have hy := hf _ (getD_in (l := ps) (k := k) (by omega))
    rw [pdN, List.mem_append, List.mem_append] at hz
    rcases hz with (hz | hz) | hz
    · exact pdN_fits hf k (by omega) z hz
    · simp only [List.mem_cons, List.not_mem_nil, or_false] at hz
      rcases hz with rfl | rfl | rfl
      · exact hy.1
      · exact hy.2.1
      · exact hy.2.2.1
    · exact h3N_fits hy.2.2.2 _ (Nat.le_refl _) z hz
def pdV (ps : List TPathPart) (n : Nat) : Int := digN (pdN ps n) (pdN ps n).length
set_option maxRecDepth 100000 in
set_option maxHeartbeats 4000000 in
theorem implPDig (a : Option Addr) (n c B : Nat) (ps : List TPathPart) (w : World) (h : HasPathPart w B a n ps) (hB : B ≤ w.heap.size) (hn : szPathPart ps n ≤ 1048576) (hf : ∀ y ∈ ps, TPathPart.fits y) :
    Calls Try.prog 123 #[.agg #[.slice a n c]] w fun e w' => e = .returned (.int .i64 (pdV ps n)) ∧ Mk0 w w' := by
  have HF := Lib.hid (pdN_fits hf n (Nat.le_of_eq h.1.symm))
  clear hf
  obtain ⟨i0, hi, hz0, hz1, hz2⟩ := info_parts infoI64
  have hby : i0.bytes ≤ 8 := by rw [hz2]; decide
  have hn0 : n ≤ 1048576 := Nat.le_trans (szPathPart_n ps n) hn
  have M0 := Mk.alloc w (Obj.cells #[Value.slice a n c] 75)
  have hs1 : (w.alloc (Obj.cells #[Value.slice a n c] 75)).heap.size = w.heap.size + 1 := by rw [World.size_alloc]
  have hA : ((w.alloc (Obj.cells #[Value.slice a n c] 75)).alloc (.cells #[] 3)).ownsRow (w.alloc (Obj.cells #[Value.slice a n c] 75)).heap.size 3 1 (.slice (some ⟨(w.alloc (Obj.cells #[Value.slice a n c] 75)).heap.size, 0, none⟩) 0 0) 0 (([] : List Int).map (.int .i64)) := own_lit (w.alloc (Obj.cells #[Value.slice a n c] 75)) 3 [] (by simp)
  rw [hs1] at hA
  have ML := Mk.alloc (w.alloc (Obj.cells #[Value.slice a n c] 75)) (.cells #[] 3)
  go_enter Try.func123, Try.ntmps123
  go_wp2_with fail
  go_loopw [3, 12] (fun v i wr => ∃ k : Nat, k ≤ n ∧ i = .int .i64 k ∧ wr.ownsRow (w.heap.size + 1) 3 1 v (pdN ps k).length ((pdN ps k).map (.int .i64)) ∧ Mk0 (w.alloc (Obj.cells #[Value.slice a n c] 75)) wr) (fun _ i _ => n - (intOf i).toNat)
  case atStart => exact ⟨0, Nat.zero_le _, rfl, hA, ML⟩
  case round =>
    clear hA ML
    obtain ⟨k, hk, rfl, hown, hM⟩ := hrel
    have hM' := M0.trans hM
    have hlow := hM.size
    rw [hs1] at hlow
    by_cases hlt : k < n
    · obtain ⟨b, off, x, rfl, hb, hx, a3, n3, c3, d0, d1, d2, d3, r3, m3, t3, z3⟩ := HasPathPart.at _ _ _ _ _ _ h hlt
      have hse : (ps.getD k default).hops.length = n3 := by rw [← hx.out]; exact r3.1
      have HS := szPathPart_at ps hlt
      have hpl := pdN_len ps k
      have hsp : sePathPart (ps.getD k default) = n3 := hse
      rw [hsp] at HS
      have hn3 : n3 ≤ 1048576 := by omega
      have hLb : (pdN ps k).length ≤ 9437184 := by rw [hpl]; omega
      have HP := Lib.hid (show pdN ps (k + 1) = pdN ps k ++ [x.kind, x.ts, x.beta] ++ h3N x.hops n3 by rw [pdN, ← hx.out, show x.hops.length = n3 from r3.1])
      have HR3 := Lib.hid r3
      clear hse hsp HS hpl r3 m3 t3 z3
      replace d0 := hM'.cellAt d0
      replace d1 := hM'.cellAt d1
      replace d2 := hM'.cellAt d2
      replace d3 := hM'.cellAt d3
      obtain ⟨L, hL⟩ : ∃ L, Hid (L = pdN ps k) := ⟨_, Lib.hid rfl⟩
      rw [← hL.out] at hown hLb HP
      have i1 : (0 : Int) ≤ (k : Int) := by omega
      have i2 : (k : Int) < (n : Int) := by omega
      have hbr := World.block_lt_of_cell? _ _ d0
      simp only at hbr
      have MX := Mk.alloc wr (Obj.cells #[Value.int .i64 x.kind, Value.int .i64 x.ts, Value.int .i64 x.beta, Value.slice a3 n3 c3] 140)
      have q0 : (wr.alloc (Obj.cells #[Value.int .i64 x.kind, Value.int .i64 x.ts, Value.int .i64 x.beta, Value.slice a3 n3 c3] 140)).cell? ⟨wr.heap.size, 0, none⟩ = some (.int .i64 x.kind) := by simp [go_sem]
      have q1 : (wr.alloc (Obj.cells #[Value.int .i64 x.kind, Value.int .i64 x.ts, Value.int .i64 x.beta, Value.slice a3 n3 c3] 140)).cell? ⟨wr.heap.size, 1, none⟩ = some (.int .i64 x.ts) := by simp [go_sem]
      have q2 : (wr.alloc (Obj.cells #[Value.int .i64 x.kind, Value.int .i64 x.ts, Value.int .i64 x.beta, Value.slice a3 n3 c3] 140)).cell? ⟨wr.heap.size, 2, none⟩ = some (.int .i64 x.beta) := by simp [go_sem]
      have q3 : (wr.alloc (Obj.cells #[Value.int .i64 x.kind, Value.int .i64 x.ts, Value.int .i64 x.beta, Value.slice a3 n3 c3] 140)).cell? ⟨wr.heap.size, 3, none⟩ = some (.slice a3 n3 c3) := by simp [go_sem]
      have m1 := Mk.alloc (wr.alloc (Obj.cells #[Value.int .i64 x.kind, Value.int .i64 x.ts, Value.int .i64 x.beta, Value.slice a3 n3 c3] 140)) (.cells #[.int .i64 x.kind, .int .i64 x.ts, .int .i64 x.beta] 3)
      have q3b := Lib.hid (m1.cellAt q3)
      have hh1 := lit_has (wr.alloc (Obj.cells #[Value.int .i64 x.kind, Value.int .i64 x.ts, Value.int .i64 x.beta, Value.slice a3 n3 c3] 140)) 3 [x.kind, x.ts, x.beta] 3 rfl
      rw [World.size_alloc wr] at hh1
      have hgo : ∀ g, _root_.Go.Value.ownBlock _ = some g → g < wr.heap.size := fun g hg => (hown.lt g hg).2
      have ho' := own_keptR (own_keptR hown MX) m1
      have hlo' : w.heap.size + 1 ≤ ((wr.alloc (Obj.cells #[Value.int .i64 x.kind, Value.int .i64 x.ts, Value.int .i64 x.beta, Value.slice a3 n3 c3] 140)).alloc (.cells #[.int .i64 x.kind, .int .i64 x.ts, .int .i64 x.beta] 3)).heap.size := by rw [World.size_alloc, World.size_alloc]; omega
      go_wp2_with (at_builtin; refine wpList_app rfl (.tmp 16) (.tmp 23) 46 rfl _ 3 i0 Try.underlying46 hi hz0 hz1 hby _ L L.length rfl ho' _ 3 3 [x.kind, x.ts, x.beta] rfl (fun h => by cases h) hh1 (by omega) hlo' ?_; intro v3 w3 ho3 hg3 _; have q3' := (World.cell?_of_block (w := ((wr.alloc (Obj.cells #[Value.int .i64 x.kind, Value.int .i64 x.ts, Value.int .i64 x.beta, Value.slice a3 n3 c3] 140)).alloc (.cells #[.int .i64 x.kind, .int .i64 x.ts, .int .i64 x.beta] 3))) (a := ⟨wr.heap.size, 3, none⟩) (hg3.block wr.heap.size (World.block_lt_of_cell? _ _ q3b.out) (fun e => Nat.lt_irrefl _ (hgo _ e.symm)))).trans q3b.out)
      have M3 := (hM.trans (MX.trans m1)).appR hg3 (fun g hg => by have := (ho'.lt g hg).1; rw [hs1]; omega)
      clear q3 q3b q0 q1 q2 hgo hown ho' hh1 d0 d1 d2 d3
      go_loopw [3, 28] (fun v i wi => ∃ j : Nat, j ≤ n3 ∧ i = .int .i64 j ∧ wi.ownsRow (w.heap.size + 1) 3 1 v (L.length + 3 + 3 * j) ((L ++ [x.kind, x.ts, x.beta] ++ h3N x.hops j).map (.int .i64)) ∧ Mk0 (w.alloc (Obj.cells #[Value.slice (some ⟨b, off, none⟩) n c] 75)) wi) (fun _ i _ => n3 - (intOf i).toNat)
      case atStart => exact ⟨0, Nat.zero_le _, rfl, by simpa [h3N] using ho3, M3⟩
      case round =>
        clear ho3 M3 q3'
        obtain ⟨j, hj, rfl, hown, hMi⟩ := hrel
        have hMi' := M0.trans hMi
        have hlow2 := hMi.size
        rw [hs1] at hlow2
        by_cases hjt : j < n3
        · obtain ⟨b2, off2, q, rfl, hb2, hq, e0, e1, e2, e3, e4⟩ := HasHop.at _ _ _ _ _ _ (HR3.out.mk hMi' hB (.inr (Nat.le_refl _))) hjt
          have hbr2 := World.block_lt_of_cell? _ _ e0
          simp only at hbr2
          have j1 : (0 : Int) ≤ (j : Int) := by omega
          have j2 : (j : Int) < (n3 : Int) := by omega
          have HQ := Lib.hid (show L ++ [x.kind, x.ts, x.beta] ++ h3N x.hops (j + 1) = L ++ [x.kind, x.ts, x.beta] ++ h3N x.hops j ++ [q.nd, q.ing, q.eg] by rw [h3N, ← hq.out, List.append_assoc (L ++ [x.kind, x.ts, x.beta])])
          obtain ⟨L2, hL2⟩ : ∃ L2, Hid (L2 = L ++ [x.kind, x.ts, x.beta] ++ h3N x.hops j) := ⟨_, Lib.hid rfl⟩
          rw [← hL2.out] at hown HQ
          have MX2 := (Mk.alloc wr (Obj.cells #[Value.int .i64 q.nd, Value.int .i64 q.ing, Value.int .i64 q.eg, Value.int .i64 q.exp, Value.int .i64 q.mac] 24)).new (.cells #[.int .i64 q.nd, .int .i64 q.ing, .int .i64 q.eg] 3)
          have hn1 := lit_has (wr.alloc (Obj.cells #[Value.int .i64 q.nd, Value.int .i64 q.ing, Value.int .i64 q.eg, Value.int .i64 q.exp, Value.int .i64 q.mac] 24)) 3 [q.nd, q.ing, q.eg] 3 rfl
          rw [World.size_alloc wr] at hn1
          have ho' := own_keptR hown MX2
          have hlo' := (hMi.trans MX2).size
          rw [hs1] at hlo'
          go_wp2_with (at_builtin; refine wpList_app rfl (.tmp 32) (.tmp 39) 46 rfl _ 3 i0 Try.underlying46 hi hz0 hz1 hby _ L2 (L.length + 3 + 3 * j) rfl ho' _ 3 3 [q.nd, q.ing, q.eg] rfl (fun h => by cases h) hn1 (by omega) hlo' ?_; intro v5 w5 ho5 hg5 _)
          have M5 := (hMi.trans MX2).appR hg5 (fun g hg => by have := (ho'.lt g hg).1; rw [hs1]; omega)
          go_wp2_with fail
          go_roundw
          case rel => exact ⟨j + 1, by omega, by go_num, by rw [HQ.out]; exact ho5, M5⟩
          case measure => simp [intOf]; omega
        · obtain rfl : j = n3 := by omega
          have HLn := Lib.hid (show (pdN ps (k + 1)).length = L.length + 3 + 3 * j by rw [HP.out]; simp [h3N_len] <;> omega)
          go_wp2_with fail
          go_roundw
          case rel => exact ⟨k + 1, by omega, by go_num, by rw [HLn.out, HP.out]; exact hown, hMi⟩
          case measure => simp [intOf]; omega
    · obtain rfl : k = n := by omega
      obtain ⟨A9, C9, rfl, hA9, hN9⟩ := ownsRow_sliceR2 hown
      have HO := Lib.hid (ownsRow_own hown).has
      have HB9 := Lib.hid (show (pdN ps k).length ≤ 16777216 by have h1 := pdN_len ps k; unfold szPathPart at hn; omega)
      clear hown hN9
      go_wp2_with fail
      refine (implDigest A9 _ C9 _ _ _ HO.out HF.out HB9.out).mono ?_
      rintro e w' ⟨rfl, rfl⟩
      go_wp2_with fail
      go_ret
      exact ⟨rfl, hM'⟩

set_option maxRecDepth 100000 in
set_option maxHeartbeats 4000000 in
theorem specPDig (a : Option Addr) (n c B : Nat) (ps : List TPathPart) (w : World) (h : HasPathPart w B a n ps) (hB : B ≤ w.heap.size) (hn : szPathPart ps n ≤ 1048576) (hf : ∀ y ∈ ps, TPathPart.fits y) :
    Calls Try.prog 81 #[.agg #[.slice a n c]] w fun e w' => e = .returned (.int .i64 (pdV ps n)) ∧ Mk0 w w' := by
  have HF := Lib.hid (pdN_fits hf n (Nat.le_of_eq h.1.symm))
  clear hf
  obtain ⟨i0, hi, hz0, hz1, hz2⟩ := info_parts infoI64
  have hby : i0.bytes ≤ 8 := by rw [hz2]; decide
  have hn0 : n ≤ 1048576 := Nat.le_trans (szPathPart_n ps n) hn
  have M0 := Mk.alloc w (Obj.cells #[Value.slice a n c] 75)
  have hs1 : (w.alloc (Obj.cells #[Value.slice a n c] 75)).heap.size = w.heap.size + 1 := by rw [World.size_alloc]
  have hA : ((w.alloc (Obj.cells #[Value.slice a n c] 75)).alloc (.cells #[] 3)).ownsRow (w.alloc (Obj.cells #[Value.slice a n c] 75)).heap.size 3 1 (.slice (some ⟨(w.alloc (Obj.cells #[Value.slice a n c] 75)).heap.size, 0, none⟩) 0 0) 0 (([] : List Int).map (.int .i64)) := own_lit (w.alloc (Obj.cells #[Value.slice a n c] 75)) 3 [] (by simp)
  rw [hs1] at hA
  have ML := Mk.alloc (w.alloc (Obj.cells #[Value.slice a n c] 75)) (.cells #[] 3)
  have k0 : (w.alloc (Obj.cells #[Value.slice a n c] 75)).cell? ⟨w.heap.size, 0, none⟩ = some (.slice a n c) := by simp [go_sem]
  have K0 := Lib.hid k0
  replace k0 := ML.cellAt k0
  go_enter Try.func81, Try.ntmps81
  go_wp2_with fail
  go_loopw [3, 4] (fun v i wr => ∃ k : Nat, k ≤ n ∧ i = .int .i64 k ∧ wr.ownsRow (w.heap.size + 1) 3 1 v (pdN ps k).length ((pdN ps k).map (.int .i64)) ∧ Mk0 (w.alloc (Obj.cells #[Value.slice a n c] 75)) wr) (fun _ i _ => n - (intOf i).toNat)
  case atStart => exact ⟨0, Nat.zero_le _, rfl, hA, ML⟩
  case round =>
    clear hA ML
    obtain ⟨k, hk, rfl, hown, hM⟩ := hrel
    have hM' := M0.trans hM
    have hlow := hM.size
    rw [hs1] at hlow
    have k0 := hM.cellAt K0.out
    by_cases hlt : k < n
    · obtain ⟨b, off, x, rfl, hb, hx, a3, n3, c3, d0, d1, d2, d3, r3, m3, t3, z3⟩ := HasPathPart.at _ _ _ _ _ _ h hlt
      have hse : (ps.getD k default).hops.length = n3 := by rw [← hx.out]; exact r3.1
      have HS := szPathPart_at ps hlt
      have hpl := pdN_len ps k
      have hsp : sePathPart (ps.getD k default) = n3 := hse
      rw [hsp] at HS
      have hn3 : n3 ≤ 1048576 := by omega
      have hLb : (pdN ps k).length ≤ 9437184 := by rw [hpl]; omega
      have HP := Lib.hid (show pdN ps (k + 1) = pdN ps k ++ [x.kind, x.ts, x.beta] ++ h3N x.hops n3 by rw [pdN, ← hx.out, show x.hops.length = n3 from r3.1])
      have HR3 := Lib.hid r3
      clear hse hsp HS hpl r3 m3 t3 z3
      have D3 := Lib.hid d3
      replace d0 := hM'.cellAt d0
      replace d1 := hM'.cellAt d1
      replace d2 := hM'.cellAt d2
      replace d3 := hM'.cellAt d3
      obtain ⟨L, hL⟩ : ∃ L, Hid (L = pdN ps k) := ⟨_, Lib.hid rfl⟩
      rw [← hL.out] at hown hLb HP
      have i1 : (0 : Int) ≤ (k : Int) := by omega
      have i2 : (k : Int) < (n : Int) := by omega
      have hbr := World.block_lt_of_cell? _ _ d0
      simp only at hbr
      go_wp2_with fail
      refine wp_region_wkt (fun w' => Mk0 wr w' ∧ w'.cell? ⟨w.heap.size, 0, none⟩ = some (.slice (some ⟨b, off, none⟩) n c) ∧ w'.cell? ⟨b, off + k * 4, none⟩ = some (.int .i64 x.kind) ∧ w'.cell? ⟨b, off + k * 4 + 1, none⟩ = some (.int .i64 x.ts) ∧ w'.cell? ⟨b, off + k * 4 + 2, none⟩ = some (.int .i64 x.beta) ∧ w'.cell? ⟨b, off + k * 4 + 3, none⟩ = some (.slice a3 n3 c3)) 19 (by kernel_rfl) (by kernel_rfl) (by kernel_rfl) (by decide) (⟨Mk.drew1 _, k0, d0, d1, d2, d3⟩) ?_
      change WkT _ _ _ _ _ 19 0 _
      first | (refine WkT.skip (m := 18) (k := 0) rfl (by rfl) ?_) | (refine WkT.pure (m := 18) (k := 0) (v := _) rfl (by rfl) (fun wv => by go_simp; try with_reducible rfl) ?_) | (refine WkT.step (m := 18) (k := 0) (v := _) rfl (by rfl) (by kernel_rfl) (fun wv hS => by obtain ⟨s0, s1, s2, s3, s4, s5⟩ := hS; go_simp; try with_reducible rfl) ?_)
      try simp only [Act.put, List.getElem_toArray, List.getElem_cons_zero, List.setIfInBounds_toArray, List.set_cons_zero, List.set_cons_succ]
      first | (refine WkT.skip (m := 17) (k := 1) rfl (by rfl) ?_) | (refine WkT.pure (m := 17) (k := 1) (v := _) rfl (by rfl) (fun wv => by go_simp; try with_reducible rfl) ?_) | (refine WkT.step (m := 17) (k := 1) (v := _) rfl (by rfl) (by kernel_rfl) (fun wv hS => by obtain ⟨s0, s1, s2, s3, s4, s5⟩ := hS; go_simp; try with_reducible rfl) ?_)
      try simp only [Act.put, List.getElem_toArray, List.getElem_cons_succ, List.getElem_cons_zero, List.setIfInBounds_toArray, List.set_cons_zero, List.set_cons_succ]
      first | (refine WkT.skip (m := 16) (k := 2) rfl (by rfl) ?_) | (refine WkT.pure (m := 16) (k := 2) (v := _) rfl (by rfl) (fun wv => by go_simp; try with_reducible rfl) ?_) | (refine WkT.step (m := 16) (k := 2) (v := _) rfl (by rfl) (by kernel_rfl) (fun wv hS => by obtain ⟨s0, s1, s2, s3, s4, s5⟩ := hS; go_simp; try with_reducible rfl) ?_)
      try simp only [Act.put, List.getElem_toArray, List.getElem_cons_succ, List.getElem_cons_zero, List.setIfInBounds_toArray, List.set_cons_zero, List.set_cons_succ]
      first | (refine WkT.skip (m := 15) (k := 3) rfl (by rfl) ?_) | (refine WkT.pure (m := 15) (k := 3) (v := _) rfl (by rfl) (fun wv => by go_simp; try with_reducible rfl) ?_) | (refine WkT.step (m := 15) (k := 3) (v := _) rfl (by rfl) (by kernel_rfl) (fun wv hS => by obtain ⟨s0, s1, s2, s3, s4, s5⟩ := hS; go_simp; try with_reducible rfl) ?_)
      try simp only [Act.put, List.getElem_toArray, List.getElem_cons_succ, List.getElem_cons_zero, List.setIfInBounds_toArray, List.set_cons_zero, List.set_cons_succ]
      first | (refine WkT.skip (m := 14) (k := 4) rfl (by rfl) ?_) | (refine WkT.pure (m := 14) (k := 4) (v := _) rfl (by rfl) (fun wv => by go_simp; try with_reducible rfl) ?_) | (refine WkT.step (m := 14) (k := 4) (v := _) rfl (by rfl) (by kernel_rfl) (fun wv hS => by obtain ⟨s0, s1, s2, s3, s4, s5⟩ := hS; go_simp; try with_reducible rfl) ?_)
      try simp only [Act.put, List.getElem_toArray, List.getElem_cons_succ, List.getElem_cons_zero, List.setIfInBounds_toArray, List.set_cons_zero, List.set_cons_succ]
      first | (refine WkT.skip (m := 13) (k := 5) rfl (by rfl) ?_) | (refine WkT.pure (m := 13) (k := 5) (v := _) rfl (by rfl) (fun wv => by go_simp; try with_reducible rfl) ?_) | (refine WkT.step (m := 13) (k := 5) (v := _) rfl (by rfl) (by kernel_rfl) (fun wv hS => by obtain ⟨s0, s1, s2, s3, s4, s5⟩ := hS; go_simp; try with_reducible rfl) ?_)
      try simp only [Act.put, List.getElem_toArray, List.getElem_cons_succ, List.getElem_cons_zero, List.setIfInBounds_toArray, List.set_cons_zero, List.set_cons_succ]
      first | (refine WkT.skip (m := 12) (k := 6) rfl (by rfl) ?_) | (refine WkT.pure (m := 12) (k := 6) (v := _) rfl (by rfl) (fun wv => by go_simp; try with_reducible rfl) ?_) | (refine WkT.step (m := 12) (k := 6) (v := _) rfl (by rfl) (by kernel_rfl) (fun wv hS => by obtain ⟨s0, s1, s2, s3, s4, s5⟩ := hS; go_simp; try with_reducible rfl) ?_)
      try simp only [Act.put, List.getElem_toArray, List.getElem_cons_succ, List.getElem_cons_zero, List.setIfInBounds_toArray, List.set_cons_zero, List.set_cons_succ]
      first | (refine WkT.skip (m := 11) (k := 7) rfl (by rfl) ?_) | (refine WkT.pure (m := 11) (k := 7) (v := _) rfl (by rfl) (fun wv => by go_simp; try with_reducible rfl) ?_) | (refine WkT.step (m := 11) (k := 7) (v := _) rfl (by rfl) (by kernel_rfl) (fun wv hS => by obtain ⟨s0, s1, s2, s3, s4, s5⟩ := hS; go_simp; try with_reducible rfl) ?_)
      try simp only [Act.put, List.getElem_toArray, List.getElem_cons_succ, List.getElem_cons_zero, List.setIfInBounds_toArray, List.set_cons_zero, List.set_cons_succ]
      first | (refine WkT.skip (m := 10) (k := 8) rfl (by rfl) ?_) | (refine WkT.pure (m := 10) (k := 8) (v := _) rfl (by rfl) (fun wv => by go_simp; try with_reducible rfl) ?_) | (refine WkT.step (m := 10) (k := 8) (v := _) rfl (by rfl) (by kernel_rfl) (fun wv hS => by obtain ⟨s0, s1, s2, s3, s4, s5⟩ := hS; go_simp; try with_reducible rfl) ?_)
      try simp only [Act.put, List.getElem_toArray, List.getElem_cons_succ, List.getElem_cons_zero, List.setIfInBounds_toArray, List.set_cons_zero, List.set_cons_succ]
      first | (refine WkT.skip (m := 9) (k := 9) rfl (by rfl) ?_) | (refine WkT.pure (m := 9) (k := 9) (v := _) rfl (by rfl) (fun wv => by go_simp; try with_reducible rfl) ?_) | (refine WkT.step (m := 9) (k := 9) (v := _) rfl (by rfl) (by kernel_rfl) (fun wv hS => by obtain ⟨s0, s1, s2, s3, s4, s5⟩ := hS; go_simp; try with_reducible rfl) ?_)
      try simp only [Act.put, List.getElem_toArray, List.getElem_cons_succ, List.getElem_cons_zero, List.setIfInBounds_toArray, List.set_cons_zero, List.set_cons_succ]
      first | (refine WkT.skip (m := 8) (k := 10) rfl (by rfl) ?_) | (refine WkT.pure (m := 8) (k := 10) (v := _) rfl (by rfl) (fun wv => by go_simp; try with_reducible rfl) ?_) | (refine WkT.step (m := 8) (k := 10) (v := _) rfl (by rfl) (by kernel_rfl) (fun wv hS => by obtain ⟨s0, s1, s2, s3, s4, s5⟩ := hS; go_simp; try with_reducible rfl) ?_)
      try simp only [Act.put, List.getElem_toArray, List.getElem_cons_succ, List.getElem_cons_zero, List.setIfInBounds_toArray, List.set_cons_zero, List.set_cons_succ]
      first | (refine WkT.skip (m := 7) (k := 11) rfl (by rfl) ?_) | (refine WkT.pure (m := 7) (k := 11) (v := _) rfl (by rfl) (fun wv => by go_simp; try with_reducible rfl) ?_) | (refine WkT.step (m := 7) (k := 11) (v := _) rfl (by rfl) (by kernel_rfl) (fun wv hS => by obtain ⟨s0, s1, s2, s3, s4, s5⟩ := hS; go_simp; try with_reducible rfl) ?_)
      try simp only [Act.put, List.getElem_toArray, List.getElem_cons_succ, List.getElem_cons_zero, List.setIfInBounds_toArray, List.set_cons_zero, List.set_cons_succ]
      first | (refine WkT.skip (m := 6) (k := 12) rfl (by rfl) ?_) | (refine WkT.pure (m := 6) (k := 12) (v := _) rfl (by rfl) (fun wv => by go_simp; try with_reducible rfl) ?_) | (refine WkT.step (m := 6) (k := 12) (v := _) rfl (by rfl) (by kernel_rfl) (fun wv hS => by obtain ⟨s0, s1, s2, s3, s4, s5⟩ := hS; go_simp; try with_reducible rfl) ?_)
      try simp only [Act.put, List.getElem_toArray, List.getElem_cons_succ, List.getElem_cons_zero, List.setIfInBounds_toArray, List.set_cons_zero, List.set_cons_succ]
      first | (refine WkT.skip (m := 5) (k := 13) rfl (by rfl) ?_) | (refine WkT.pure (m := 5) (k := 13) (v := _) rfl (by rfl) (fun wv => by go_simp; try with_reducible rfl) ?_) | (refine WkT.step (m := 5) (k := 13) (v := _) rfl (by rfl) (by kernel_rfl) (fun wv hS => by obtain ⟨s0, s1, s2, s3, s4, s5⟩ := hS; go_simp; try with_reducible rfl) ?_)
      try simp only [Act.put, List.getElem_toArray, List.getElem_cons_succ, List.getElem_cons_zero, List.setIfInBounds_toArray, List.set_cons_zero, List.set_cons_succ]
      first | (refine WkT.skip (m := 4) (k := 14) rfl (by rfl) ?_) | (refine WkT.pure (m := 4) (k := 14) (v := _) rfl (by rfl) (fun wv => by go_simp; try with_reducible rfl) ?_) | (refine WkT.step (m := 4) (k := 14) (v := _) rfl (by rfl) (by kernel_rfl) (fun wv hS => by obtain ⟨s0, s1, s2, s3, s4, s5⟩ := hS; go_simp; try with_reducible rfl) ?_)
      try simp only [Act.put, List.getElem_toArray, List.getElem_cons_succ, List.getElem_cons_zero, List.setIfInBounds_toArray, List.set_cons_zero, List.set_cons_succ]
      first | (refine WkT.skip (m := 3) (k := 15) rfl (by rfl) ?_) | (refine WkT.pure (m := 3) (k := 15) (v := _) rfl (by rfl) (fun wv => by go_simp; try with_reducible rfl) ?_) | (refine WkT.step (m := 3) (k := 15) (v := _) rfl (by rfl) (by kernel_rfl) (fun wv hS => by obtain ⟨s0, s1, s2, s3, s4, s5⟩ := hS; go_simp; try with_reducible rfl) ?_)
      try simp only [Act.put, List.getElem_toArray, List.getElem_cons_succ, List.getElem_cons_zero, List.setIfInBounds_toArray, List.set_cons_zero, List.set_cons_succ]
      first | (refine WkT.skip (m := 2) (k := 16) rfl (by rfl) ?_) | (refine WkT.pure (m := 2) (k := 16) (v := _) rfl (by rfl) (fun wv => by go_simp; try with_reducible rfl) ?_) | (refine WkT.step (m := 2) (k := 16) (v := _) rfl (by rfl) (by kernel_rfl) (fun wv hS => by obtain ⟨s0, s1, s2, s3, s4, s5⟩ := hS; go_simp; try with_reducible rfl) ?_)
      try simp only [Act.put, List.getElem_toArray, List.getElem_cons_succ, List.getElem_cons_zero, List.setIfInBounds_toArray, List.set_cons_zero, List.set_cons_succ]
      first | (refine WkT.skip (m := 1) (k := 17) rfl (by rfl) ?_) | (refine WkT.pure (m := 1) (k := 17) (v := _) rfl (by rfl) (fun wv => by go_simp; try with_reducible rfl) ?_) | (refine WkT.step (m := 1) (k := 17) (v := _) rfl (by rfl) (by kernel_rfl) (fun wv hS => by obtain ⟨s0, s1, s2, s3, s4, s5⟩ := hS; go_simp; try with_reducible rfl) ?_)
      try simp only [Act.put, List.getElem_toArray, List.getElem_cons_succ, List.getElem_cons_zero, List.setIfInBounds_toArray, List.set_cons_zero, List.set_cons_succ]
      first | (refine WkT.skip (m := 0) (k := 18) rfl (by rfl) ?_) | (refine WkT.pure (m := 0) (k := 18) (v := _) rfl (by rfl) (fun wv => by go_simp; try with_reducible rfl) ?_) | (refine WkT.step (m := 0) (k := 18) (v := _) rfl (by rfl) (by kernel_rfl) (fun wv hS => by obtain ⟨s0, s1, s2, s3, s4, s5⟩ := hS; go_simp; try with_reducible rfl) ?_)
      try simp only [Act.put, List.getElem_toArray, List.getElem_cons_succ, List.getElem_cons_zero, List.setIfInBounds_toArray, List.set_cons_zero, List.set_cons_succ]
      refine WkT.done fun wE hE => ?_
      clear k0 d0 d1 d2 d3
      obtain ⟨mE, k0, d0, d1, d2, d3⟩ := hE
      simp only [List.drop_succ_cons, List.drop_zero]
      have ho' := own_keptR (own_keptR hown mE) (Mk.alloc wE (.cells #[.int .i64 x.kind, .int .i64 x.ts, .int .i64 x.beta] 3))
      have hh1 := lit_has wE 3 [x.kind, x.ts, x.beta] 3 rfl
      have MA := Mk.alloc wE (.cells #[.int .i64 x.kind, .int .i64 x.ts, .int .i64 x.beta] 3)
      have hlo' : w.heap.size + 1 ≤ (wE.alloc (.cells #[.int .i64 x.kind, .int .i64 x.ts, .int .i64 x.beta] 3)).heap.size := by have := mE.size; rw [World.size_alloc]; omega
      go_wp2_with (at_builtin; refine wpList_app rfl (.tmp 15) (.tmp 34) 46 rfl _ 3 i0 Try.underlying46 hi hz0 hz1 hby _ L L.length rfl ho' _ 3 3 [x.kind, x.ts, x.beta] rfl (fun h => by cases h) hh1 (by omega) hlo' ?_; intro v3 w3 ho3 hg3 _)
      have M3 := (hM.trans (mE.trans MA)).appR hg3 (fun g hg => by have := (ho'.lt g hg).1; rw [hs1]; omega)
      clear hown ho' hh1 k0 d0 d1 d2 d3
      go_wp2_with fail
      simp only [noPan]
      go_wp2_with fail
      go_loopw [3, 5] (fun v i wi => ∃ j : Nat, j ≤ n3 ∧ i = .int .i64 j ∧ wi.ownsRow (w.heap.size + 1) 3 1 v (L.length + 3 + 3 * j) ((L ++ [x.kind, x.ts, x.beta] ++ h3N x.hops j).map (.int .i64)) ∧ Mk0 (w.alloc (Obj.cells #[Value.slice (some ⟨b, off, none⟩) n c] 75)) wi) (fun _ i _ => n3 - (intOf i).toNat)
      case atStart => exact ⟨0, Nat.zero_le _, rfl, by simpa [h3N] using ho3, M3⟩
      case round =>
        clear ho3 M3
        obtain ⟨j, hj, rfl, hown, hMi⟩ := hrel
        have hMi' := M0.trans hMi
        have hlow2 := hMi.size
        rw [hs1] at hlow2
        have k0 := hMi.cellAt K0.out
        have d3 := hMi'.cellAt D3.out
        by_cases hjt : j < n3
        · obtain ⟨b2, off2, q, rfl, hb2, hq, e0, e1, e2, e3, e4⟩ := HasHop.at _ _ _ _ _ _ (HR3.out.mk hMi' hB (.inr (Nat.le_refl _))) hjt
          have hbr2 := World.block_lt_of_cell? _ _ e0
          simp only at hbr2
          have j1 : (0 : Int) ≤ (j : Int) := by omega
          have j2 : (j : Int) < (n3 : Int) := by omega
          have HQ := Lib.hid (show L ++ [x.kind, x.ts, x.beta] ++ h3N x.hops (j + 1) = L ++ [x.kind, x.ts, x.beta] ++ h3N x.hops j ++ [q.nd, q.ing, q.eg] by rw [h3N, ← hq.out, List.append_assoc (L ++ [x.kind, x.ts, x.beta])])
          obtain ⟨L2, hL2⟩ : ∃ L2, Hid (L2 = L ++ [x.kind, x.ts, x.beta] ++ h3N x.hops j) := ⟨_, Lib.hid rfl⟩
          rw [← hL2.out] at hown HQ
          have MX2 := (Mk.alloc wr (Obj.cells #[Value.int .i64 q.nd, Value.int .i64 q.ing, Value.int .i64 q.eg, Value.int .i64 q.exp, Value.int .i64 q.mac] 24)).new (.cells #[.int .i64 q.nd, .int .i64 q.ing, .int .i64 q.eg] 3)
          have hn1 := lit_has (wr.alloc (Obj.cells #[Value.int .i64 q.nd, Value.int .i64 q.ing, Value.int .i64 q.eg, Value.int .i64 q.exp, Value.int .i64 q.mac] 24)) 3 [q.nd, q.ing, q.eg] 3 rfl
          rw [World.size_alloc wr] at hn1
          have ho' := own_keptR hown MX2
          have hlo' := (hMi.trans MX2).size
          rw [hs1] at hlo'
          go_wp2_with (at_builtin; refine wpList_app rfl (.tmp 56) (.tmp 63) 46 rfl _ 3 i0 Try.underlying46 hi hz0 hz1 hby _ L2 (L.length + 3 + 3 * j) rfl ho' _ 3 3 [q.nd, q.ing, q.eg] rfl (fun h => by cases h) hn1 (by omega) hlo' ?_; intro v5 w5 ho5 hg5 _)
          have M5 := (hMi.trans MX2).appR hg5 (fun g hg => by have := (ho'.lt g hg).1; rw [hs1]; omega)
          go_wp2_with fail
          go_roundw
          case rel => exact ⟨j + 1, by omega, by go_num, by rw [HQ.out]; exact ho5, M5⟩
          case measure => simp [intOf]; omega
        · obtain rfl : j = n3 := by omega
          have HLn := Lib.hid (show (pdN ps (k + 1)).length = L.length + 3 + 3 * j by rw [HP.out]; simp [h3N_len] <;> omega)
          go_wp2_with fail
          go_roundw
          case rel => exact ⟨k + 1, by omega, by go_num, by rw [HLn.out, HP.out]; exact hown, hMi⟩
          case measure => simp [intOf]; omega
    · obtain rfl : k = n := by omega
      obtain ⟨A9, C9, rfl, hA9, hN9⟩ := ownsRow_sliceR2 hown
      have HO := Lib.hid (ownsRow_own hown).has
      have HB9 := Lib.hid (show (pdN ps k).length ≤ 16777216 by have h1 := pdN_len ps k; unfold szPathPart at hn; omega)
      clear hown hN9
      go_wp2_with fail
      refine (specDigest A9 _ C9 _ _ _ HO.out HF.out HB9.out).mono ?_
      rintro e w' ⟨rfl, rfl⟩
      go_wp2_with fail
      go_ret
      exact ⟨rfl, hM'⟩

end Go.Proofs.Ytiphndgmgpiodaa
