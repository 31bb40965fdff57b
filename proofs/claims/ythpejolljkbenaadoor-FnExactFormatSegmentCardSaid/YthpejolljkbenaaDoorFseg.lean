
/- FormatSegment of both sides. -/
import Derived.Test.YthpejolljkbenaaDoorJoin
import Derived.Test.YthpejolljkbenaaDoorFhop
import Derived.Test.YthpejolljkbenaaDoorSegA
import Derived.Test.YthpejolljkbenaaDoorWt
namespace Go.Proofs.YthpejolljkbenaaDoor
open Go Go.ChangeShapes Go.WideShapes Go.ChangeAt Go.RowKit
set_option linter.unusedVariables false
def segF (zs : List TAS) (n0 : Nat) (hs : List THop) (k : Nat) : ByteArray := hopT zs n0 (hs.getD k default).nd (hs.getD k default).ing (hs.getD k default).eg
theorem hop_at {hs : List THop} {n k : Nat} (hl : hs.length = n) (hk : k < n) (hf : ∀ y ∈ hs, THop.fits y) : THop.fits (hs.getD k default) := by
  refine hf _ ?_
  rw [List.getD_eq_getElem?_getD, List.getElem?_eq_getElem (by omega)]
  exact List.getElem_mem _
theorem segF_size {zs : List TAS} {n0 n : Nat} {hs : List THop} (hl : zs.length = n0) (hz : ∀ y ∈ zs, TAS.fits y) (hm : hs.length = n) (hf : ∀ y ∈ hs, THop.fits y) (k : Nat) (hk : k < n) : (segF zs n0 hs k).size ≤ 87 := by
  obtain ⟨f0, f1, f2, _⟩ := hop_at hm hk hf
  exact hopT_size hl hz (i64_of f0).1 (i64_of f0).2 (i64_of f1).1 (i64_of f1).2 (i64_of f2).1 (i64_of f2).2
set_option maxRecDepth 100000 in
set_option maxHeartbeats 4000000 in
theorem specFSeg (a0 a1 : Option Addr) (n0 c0 n1 c1 B : Nat) (zs : List TAS) (x0 x1 : Int) (a : Option Addr) (n c B' : Nat) (hs : List THop) (w : World) (h : HasAS w B a0 n0 zs) (hB : B ≤ w.heap.size) (hn0 : n0 ≤ 1048576) (hz : ∀ y ∈ zs, TAS.fits y) (hh : HasHop w B' a n hs) (hB' : B' ≤ w.heap.size) (hn : n ≤ 1048576) (hf : ∀ y ∈ hs, THop.fits y) :
    Calls Tryd.prog 13 #[.agg #[.slice a0 n0 c0, .slice a1 n1 c1], .agg #[.int .i64 x0, .int .i64 x1, .slice a n c]] w fun e w' => e = .returned (.string (jdF (segF zs n0 hs) n)) ∧ Mk0 w w' := by
  have M0 := (Mk.alloc w (Obj.cells #[Value.slice a0 n0 c0, Value.slice a1 n1 c1] 31)).new (Obj.cells #[Value.int .i64 x0, Value.int .i64 x1, Value.slice a n c] 42)
  have k0 : ((w.alloc (Obj.cells #[Value.slice a0 n0 c0, Value.slice a1 n1 c1] 31)).alloc (Obj.cells #[Value.int .i64 x0, Value.int .i64 x1, Value.slice a n c] 42)).cell? ⟨w.heap.size, 0, none⟩ = some (.slice a0 n0 c0) := by simp [go_sem]
  have k1 : ((w.alloc (Obj.cells #[Value.slice a0 n0 c0, Value.slice a1 n1 c1] 31)).alloc (Obj.cells #[Value.int .i64 x0, Value.int .i64 x1, Value.slice a n c] 42)).cell? ⟨w.heap.size, 1, none⟩ = some (.slice a1 n1 c1) := by simp [go_sem]
  have u2 : ((w.alloc (Obj.cells #[Value.slice a0 n0 c0, Value.slice a1 n1 c1] 31)).alloc (Obj.cells #[Value.int .i64 x0, Value.int .i64 x1, Value.slice a n c] 42)).cell? ⟨w.heap.size + 1, 2, none⟩ = some (.slice a n c) := by simp [go_sem]
  obtain ⟨F_, hF⟩ : ∃ F_, Hid (F_ = segF zs n0 hs) := ⟨_, Lib.hid rfl⟩
  have HFS : Hid (∀ k, k < n → (F_ k).size ≤ 87) := Lib.hid (fun k hk => by rw [hF.out]; exact segF_size h.1 hz hh.1 hf k hk)
  have HFE : Hid (∀ k : Nat, F_ k = hopT zs n0 (hs.getD k default).nd (hs.getD k default).ing (hs.getD k default).eg) := Lib.hid (fun k => by rw [hF.out]; rfl)
  have HHF : Hid (∀ k, k < n → THop.fits (hs.getD k default)) := Lib.hid (fun k hk => hop_at hh.1 hk hf)
  rw [← hF.out]
  have HZ := Lib.hid hz
  clear hz hf
  go_enter Tryd.func13, Tryd.ntmps13
  go_wp2_with fail
  generalize ((w.alloc (Obj.cells #[Value.slice a0 n0 c0, Value.slice a1 n1 c1] 31)).alloc (Obj.cells #[Value.int .i64 x0, Value.int .i64 x1, Value.slice a n c] 42)) = WW at *
  go_loopw [5, 6] (fun t i wr => ∃ k : Nat, k ≤ n ∧ i = .int .i64 k ∧ t = .string (joF F_ k) ∧ Mk0 WW wr) (fun _ i _ => n - (intOf i).toNat)
  case atStart => exact ⟨0, Nat.zero_le _, rfl, rfl, Mk.refl _ _ _⟩
  case round =>
    obtain ⟨k, hk, rfl, rfl, hM⟩ := hrel
    replace k0 := hM.cellAt k0
    replace k1 := hM.cellAt k1
    replace u2 := hM.cellAt u2
    have hMW := M0.trans hM
    by_cases hlt : k < n
    · have i1 : (0 : Int) ≤ (k : Int) := by omega
      have i2 : (k : Int) < (n : Int) := by omega
      have hFk := HFS.out k hlt
      obtain ⟨b, off, x, rfl, hb, hx, d0, d1, d2, d3, d4⟩ := HasHop.at _ _ _ _ _ _ (hh.mk hMW hB' (.inr (Nat.le_refl _))) hlt
      have hbr := World.block_lt_of_cell? _ _ d0
      have hbk := World.block_lt_of_cell? _ _ k0
      simp only at hbr hbk
      obtain ⟨f0, f1, f2, _⟩ := (hx.out ▸ HHF.out k hlt : THop.fits x)
      replace f0 := i64_of f0
      replace f1 := i64_of f1
      replace f2 := i64_of f2
      have HE := Lib.hid (show hopT zs n0 x.nd x.ing x.eg = F_ k by rw [HFE.out k, hx.out])
      obtain ⟨T, hT⟩ : ∃ T, Hid (T = joF F_ k) := ⟨_, Lib.hid rfl⟩
      have hTs : T.size ≤ 900000000 := by
        rw [hT.out]
        have h1 := joF_size HFS.out k hk
        have h2 : (87 + 1) * k ≤ (87 + 1) * 1048576 := Nat.mul_le_mul_left _ (by omega)
        omega
      rw [← hT.out]
      by_cases hk0 : k = 0
      · have HN := Lib.hid (show joF F_ (k + 1) = T ++ F_ k by rw [joF, if_pos hk0, ← hT.out])
        have i3 : (k : Int) ≤ 0 := by omega
        have ad0 := add_ok T (F_ k) hTs hFk (by decide)
        clear hk0
        go_wp2_with fail
        refine wp_region_wkt (fun w' => Mk0 wr w' ∧ w'.cell? ⟨w.heap.size, 0, none⟩ = some (.slice a0 n0 c0) ∧ w'.cell? ⟨w.heap.size, 1, none⟩ = some (.slice a1 n1 c1) ∧ w'.cell? ⟨w.heap.size + 1, 2, none⟩ = some (.slice (some ⟨b, off, none⟩) n c) ∧ w'.cell? ⟨b, off + k * 5, none⟩ = some (.int .i64 x.nd) ∧ w'.cell? ⟨b, off + k * 5 + 1, none⟩ = some (.int .i64 x.ing) ∧ w'.cell? ⟨b, off + k * 5 + 2, none⟩ = some (.int .i64 x.eg) ∧ w'.cell? ⟨b, off + k * 5 + 3, none⟩ = some (.int .i64 x.exp) ∧ w'.cell? ⟨b, off + k * 5 + 4, none⟩ = some (.int .i64 x.mac)) 9 (by kernel_rfl) (by kernel_rfl) (by kernel_rfl) (by decide) (⟨Mk.drew1 _, k0, k1, u2, d0, d1, d2, d3, d4⟩) ?_
        change WkT _ _ _ _ _ 9 0 _
        first | (refine WkT.skip (m := 8) (k := 0) rfl (by rfl) ?_) | (refine WkT.pure (m := 8) (k := 0) (v := _) rfl (by rfl) (fun wv => by go_simp; try with_reducible rfl) ?_) | (refine WkT.step (m := 8) (k := 0) (v := _) rfl (by rfl) (by kernel_rfl) (fun wv hS => by obtain ⟨s0, s1, s2, s3, s4, s5, s6, s7, s8⟩ := hS; go_simp; try with_reducible rfl) ?_)
        try simp only [Act.put, List.getElem_toArray, List.getElem_cons_zero, List.setIfInBounds_toArray, List.set_cons_zero, List.set_cons_succ]
        first | (refine WkT.skip (m := 7) (k := 1) rfl (by rfl) ?_) | (refine WkT.pure (m := 7) (k := 1) (v := _) rfl (by rfl) (fun wv => by go_simp; try with_reducible rfl) ?_) | (refine WkT.step (m := 7) (k := 1) (v := _) rfl (by rfl) (by kernel_rfl) (fun wv hS => by obtain ⟨s0, s1, s2, s3, s4, s5, s6, s7, s8⟩ := hS; go_simp; try with_reducible rfl) ?_)
        try simp only [Act.put, List.getElem_toArray, List.getElem_cons_succ, List.getElem_cons_zero, List.setIfInBounds_toArray, List.set_cons_zero, List.set_cons_succ]
        first | (refine WkT.skip (m := 6) (k := 2) rfl (by rfl) ?_) | (refine WkT.pure (m := 6) (k := 2) (v := _) rfl (by rfl) (fun wv => by go_simp; try with_reducible rfl) ?_) | (refine WkT.step (m := 6) (k := 2) (v := _) rfl (by rfl) (by kernel_rfl) (fun wv hS => by obtain ⟨s0, s1, s2, s3, s4, s5, s6, s7, s8⟩ := hS; go_simp; try with_reducible rfl) ?_)
        try simp only [Act.put, List.getElem_toArray, List.getElem_cons_succ, List.getElem_cons_zero, List.setIfInBounds_toArray, List.set_cons_zero, List.set_cons_succ]
        first | (refine WkT.skip (m := 5) (k := 3) rfl (by rfl) ?_) | (refine WkT.pure (m := 5) (k := 3) (v := _) rfl (by rfl) (fun wv => by go_simp; try with_reducible rfl) ?_) | (refine WkT.step (m := 5) (k := 3) (v := _) rfl (by rfl) (by kernel_rfl) (fun wv hS => by obtain ⟨s0, s1, s2, s3, s4, s5, s6, s7, s8⟩ := hS; go_simp; try with_reducible rfl) ?_)
        try simp only [Act.put, List.getElem_toArray, List.getElem_cons_succ, List.getElem_cons_zero, List.setIfInBounds_toArray, List.set_cons_zero, List.set_cons_succ]
        first | (refine WkT.skip (m := 4) (k := 4) rfl (by rfl) ?_) | (refine WkT.pure (m := 4) (k := 4) (v := _) rfl (by rfl) (fun wv => by go_simp; try with_reducible rfl) ?_) | (refine WkT.step (m := 4) (k := 4) (v := _) rfl (by rfl) (by kernel_rfl) (fun wv hS => by obtain ⟨s0, s1, s2, s3, s4, s5, s6, s7, s8⟩ := hS; go_simp; try with_reducible rfl) ?_)
        try simp only [Act.put, List.getElem_toArray, List.getElem_cons_succ, List.getElem_cons_zero, List.setIfInBounds_toArray, List.set_cons_zero, List.set_cons_succ]
        first | (refine WkT.skip (m := 3) (k := 5) rfl (by rfl) ?_) | (refine WkT.pure (m := 3) (k := 5) (v := _) rfl (by rfl) (fun wv => by go_simp; try with_reducible rfl) ?_) | (refine WkT.step (m := 3) (k := 5) (v := _) rfl (by rfl) (by kernel_rfl) (fun wv hS => by obtain ⟨s0, s1, s2, s3, s4, s5, s6, s7, s8⟩ := hS; go_simp; try with_reducible rfl) ?_)
        try simp only [Act.put, List.getElem_toArray, List.getElem_cons_succ, List.getElem_cons_zero, List.setIfInBounds_toArray, List.set_cons_zero, List.set_cons_succ]
        first | (refine WkT.skip (m := 2) (k := 6) rfl (by rfl) ?_) | (refine WkT.pure (m := 2) (k := 6) (v := _) rfl (by rfl) (fun wv => by go_simp; try with_reducible rfl) ?_) | (refine WkT.step (m := 2) (k := 6) (v := _) rfl (by rfl) (by kernel_rfl) (fun wv hS => by obtain ⟨s0, s1, s2, s3, s4, s5, s6, s7, s8⟩ := hS; go_simp; try with_reducible rfl) ?_)
        try simp only [Act.put, List.getElem_toArray, List.getElem_cons_succ, List.getElem_cons_zero, List.setIfInBounds_toArray, List.set_cons_zero, List.set_cons_succ]
        refine WkT.call (m := 1) (k := 7) (v := .string (F_ k)) _ _ rfl (by rfl) (by kernel_rfl) (fun wv hS => by obtain ⟨s0, s1, s2, s3, s4, s5, s6, s7, s8⟩ := hS; go_simp; first | done | exact ⟨rfl, rfl⟩ | with_reducible rfl) (fun wv hS => ?_) ?_; · obtain ⟨s0, s1, s2, s3, s4, s5, s6, s7, s8⟩ := hS; refine (specFHop a0 a1 n0 c0 n1 c1 B zs x.nd x.ing x.eg x.exp x.mac wv (h.mk (hMW.trans s0) hB (.inr (Nat.le_refl _))) (Nat.le_trans hB (hMW.trans s0).size) hn0 HZ.out f0.1 f0.2 f1.1 f1.2 f2.1 f2.2).mono ?_; rintro e w' ⟨he, mm⟩; exact ⟨by rw [he, HE.out], s0.trans mm, mm.cellAt s1, mm.cellAt s2, mm.cellAt s3, mm.cellAt s4, mm.cellAt s5, mm.cellAt s6, mm.cellAt s7, mm.cellAt s8⟩
        try simp only [Act.put, List.getElem_toArray, List.getElem_cons_succ, List.getElem_cons_zero, List.setIfInBounds_toArray, List.set_cons_zero, List.set_cons_succ]
        first | (refine WkT.skip (m := 0) (k := 8) rfl (by rfl) ?_) | (refine WkT.pure (m := 0) (k := 8) (v := _) rfl (by rfl) (fun wv => by go_simp; try with_reducible rfl) ?_) | (refine WkT.step (m := 0) (k := 8) (v := _) rfl (by rfl) (by kernel_rfl) (fun wv hS => by obtain ⟨s0, s1, s2, s3, s4, s5, s6, s7, s8⟩ := hS; go_simp; try with_reducible rfl) ?_)
        try simp only [Act.put, List.getElem_toArray, List.getElem_cons_succ, List.getElem_cons_zero, List.setIfInBounds_toArray, List.set_cons_zero, List.set_cons_succ]
        refine WkT.done fun wE hE => ?_
        clear k0 k1 u2 d0 d1 d2 d3 d4
        obtain ⟨mE, k0, k1, u2, d0, d1, d2, d3, d4⟩ := hE
        simp only [List.drop_succ_cons, List.drop_zero]
        go_wp2_with fail
        simp only [noPan]
        go_wp2_with fail
        go_roundw
        case rel => exact ⟨k + 1, by omega, by go_num, by rw [HN.out], hM.trans mE⟩
        case measure => simp [intOf]; omega
      · have HN := Lib.hid (show joF F_ (k + 1) = T ++ ⟨#[32]⟩ ++ F_ k by rw [joF, if_neg hk0, ← hT.out])
        have i3 : (0 : Int) < (k : Int) := by omega
        have ad0 := add_ok T ⟨#[32]⟩ hTs (one1 32) (by decide)
        have ad1 := add_ok (T ++ ⟨#[32]⟩) (F_ k) (size_app hTs (one1 32)) hFk (by decide)
        clear hk0
        go_wp2_with fail
        refine wp_region_wkt (fun w' => Mk0 wr w' ∧ w'.cell? ⟨w.heap.size, 0, none⟩ = some (.slice a0 n0 c0) ∧ w'.cell? ⟨w.heap.size, 1, none⟩ = some (.slice a1 n1 c1) ∧ w'.cell? ⟨w.heap.size + 1, 2, none⟩ = some (.slice (some ⟨b, off, none⟩) n c) ∧ w'.cell? ⟨b, off + k * 5, none⟩ = some (.int .i64 x.nd) ∧ w'.cell? ⟨b, off + k * 5 + 1, none⟩ = some (.int .i64 x.ing) ∧ w'.cell? ⟨b, off + k * 5 + 2, none⟩ = some (.int .i64 x.eg) ∧ w'.cell? ⟨b, off + k * 5 + 3, none⟩ = some (.int .i64 x.exp) ∧ w'.cell? ⟨b, off + k * 5 + 4, none⟩ = some (.int .i64 x.mac)) 9 (by kernel_rfl) (by kernel_rfl) (by kernel_rfl) (by decide) (⟨Mk.drew1 _, k0, k1, u2, d0, d1, d2, d3, d4⟩) ?_
        change WkT _ _ _ _ _ 9 0 _
        first | (refine WkT.skip (m := 8) (k := 0) rfl (by rfl) ?_) | (refine WkT.pure (m := 8) (k := 0) (v := _) rfl (by rfl) (fun wv => by go_simp; try with_reducible rfl) ?_) | (refine WkT.step (m := 8) (k := 0) (v := _) rfl (by rfl) (by kernel_rfl) (fun wv hS => by obtain ⟨s0, s1, s2, s3, s4, s5, s6, s7, s8⟩ := hS; go_simp; try with_reducible rfl) ?_)
        try simp only [Act.put, List.getElem_toArray, List.getElem_cons_zero, List.setIfInBounds_toArray, List.set_cons_zero, List.set_cons_succ]
        first | (refine WkT.skip (m := 7) (k := 1) rfl (by rfl) ?_) | (refine WkT.pure (m := 7) (k := 1) (v := _) rfl (by rfl) (fun wv => by go_simp; try with_reducible rfl) ?_) | (refine WkT.step (m := 7) (k := 1) (v := _) rfl (by rfl) (by kernel_rfl) (fun wv hS => by obtain ⟨s0, s1, s2, s3, s4, s5, s6, s7, s8⟩ := hS; go_simp; try with_reducible rfl) ?_)
        try simp only [Act.put, List.getElem_toArray, List.getElem_cons_succ, List.getElem_cons_zero, List.setIfInBounds_toArray, List.set_cons_zero, List.set_cons_succ]
        first | (refine WkT.skip (m := 6) (k := 2) rfl (by rfl) ?_) | (refine WkT.pure (m := 6) (k := 2) (v := _) rfl (by rfl) (fun wv => by go_simp; try with_reducible rfl) ?_) | (refine WkT.step (m := 6) (k := 2) (v := _) rfl (by rfl) (by kernel_rfl) (fun wv hS => by obtain ⟨s0, s1, s2, s3, s4, s5, s6, s7, s8⟩ := hS; go_simp; try with_reducible rfl) ?_)
        try simp only [Act.put, List.getElem_toArray, List.getElem_cons_succ, List.getElem_cons_zero, List.setIfInBounds_toArray, List.set_cons_zero, List.set_cons_succ]
        first | (refine WkT.skip (m := 5) (k := 3) rfl (by rfl) ?_) | (refine WkT.pure (m := 5) (k := 3) (v := _) rfl (by rfl) (fun wv => by go_simp; try with_reducible rfl) ?_) | (refine WkT.step (m := 5) (k := 3) (v := _) rfl (by rfl) (by kernel_rfl) (fun wv hS => by obtain ⟨s0, s1, s2, s3, s4, s5, s6, s7, s8⟩ := hS; go_simp; try with_reducible rfl) ?_)
        try simp only [Act.put, List.getElem_toArray, List.getElem_cons_succ, List.getElem_cons_zero, List.setIfInBounds_toArray, List.set_cons_zero, List.set_cons_succ]
        first | (refine WkT.skip (m := 4) (k := 4) rfl (by rfl) ?_) | (refine WkT.pure (m := 4) (k := 4) (v := _) rfl (by rfl) (fun wv => by go_simp; try with_reducible rfl) ?_) | (refine WkT.step (m := 4) (k := 4) (v := _) rfl (by rfl) (by kernel_rfl) (fun wv hS => by obtain ⟨s0, s1, s2, s3, s4, s5, s6, s7, s8⟩ := hS; go_simp; try with_reducible rfl) ?_)
        try simp only [Act.put, List.getElem_toArray, List.getElem_cons_succ, List.getElem_cons_zero, List.setIfInBounds_toArray, List.set_cons_zero, List.set_cons_succ]
        first | (refine WkT.skip (m := 3) (k := 5) rfl (by rfl) ?_) | (refine WkT.pure (m := 3) (k := 5) (v := _) rfl (by rfl) (fun wv => by go_simp; try with_reducible rfl) ?_) | (refine WkT.step (m := 3) (k := 5) (v := _) rfl (by rfl) (by kernel_rfl) (fun wv hS => by obtain ⟨s0, s1, s2, s3, s4, s5, s6, s7, s8⟩ := hS; go_simp; try with_reducible rfl) ?_)
        try simp only [Act.put, List.getElem_toArray, List.getElem_cons_succ, List.getElem_cons_zero, List.setIfInBounds_toArray, List.set_cons_zero, List.set_cons_succ]
        first | (refine WkT.skip (m := 2) (k := 6) rfl (by rfl) ?_) | (refine WkT.pure (m := 2) (k := 6) (v := _) rfl (by rfl) (fun wv => by go_simp; try with_reducible rfl) ?_) | (refine WkT.step (m := 2) (k := 6) (v := _) rfl (by rfl) (by kernel_rfl) (fun wv hS => by obtain ⟨s0, s1, s2, s3, s4, s5, s6, s7, s8⟩ := hS; go_simp; try with_reducible rfl) ?_)
        try simp only [Act.put, List.getElem_toArray, List.getElem_cons_succ, List.getElem_cons_zero, List.setIfInBounds_toArray, List.set_cons_zero, List.set_cons_succ]
        refine WkT.call (m := 1) (k := 7) (v := .string (F_ k)) _ _ rfl (by rfl) (by kernel_rfl) (fun wv hS => by obtain ⟨s0, s1, s2, s3, s4, s5, s6, s7, s8⟩ := hS; go_simp; first | done | exact ⟨rfl, rfl⟩ | with_reducible rfl) (fun wv hS => ?_) ?_; · obtain ⟨s0, s1, s2, s3, s4, s5, s6, s7, s8⟩ := hS; refine (specFHop a0 a1 n0 c0 n1 c1 B zs x.nd x.ing x.eg x.exp x.mac wv (h.mk (hMW.trans s0) hB (.inr (Nat.le_refl _))) (Nat.le_trans hB (hMW.trans s0).size) hn0 HZ.out f0.1 f0.2 f1.1 f1.2 f2.1 f2.2).mono ?_; rintro e w' ⟨he, mm⟩; exact ⟨by rw [he, HE.out], s0.trans mm, mm.cellAt s1, mm.cellAt s2, mm.cellAt s3, mm.cellAt s4, mm.cellAt s5, mm.cellAt s6, mm.cellAt s7, mm.cellAt s8⟩
        try simp only [Act.put, List.getElem_toArray, List.getElem_cons_succ, List.getElem_cons_zero, List.setIfInBounds_toArray, List.set_cons_zero, List.set_cons_succ]
        first | (refine WkT.skip (m := 0) (k := 8) rfl (by rfl) ?_) | (refine WkT.pure (m := 0) (k := 8) (v := _) rfl (by rfl) (fun wv => by go_simp; try with_reducible rfl) ?_) | (refine WkT.step (m := 0) (k := 8) (v := _) rfl (by rfl) (by kernel_rfl) (fun wv hS => by obtain ⟨s0, s1, s2, s3, s4, s5, s6, s7, s8⟩ := hS; go_simp; try with_reducible rfl) ?_)
        try simp only [Act.put, List.getElem_toArray, List.getElem_cons_succ, List.getElem_cons_zero, List.setIfInBounds_toArray, List.set_cons_zero, List.set_cons_succ]
        refine WkT.done fun wE hE => ?_
        clear k0 k1 u2 d0 d1 d2 d3 d4
        obtain ⟨mE, k0, k1, u2, d0, d1, d2, d3, d4⟩ := hE
        simp only [List.drop_succ_cons, List.drop_zero]
        go_wp2_with fail
        simp only [noPan]
        go_wp2_with fail
        go_roundw
        case rel => exact ⟨k + 1, by omega, by go_num, by rw [HN.out], hM.trans mE⟩
        case measure => simp [intOf]; omega
    · obtain rfl : k = n := by omega
      by_cases hn : k = 0
      · have HR := Lib.hid (show jdF F_ k = ⟨#[45]⟩ by rw [hn]; rfl)
        have i4 : (k : Int) ≤ 0 := by omega
        have i5 : ((k : Int) == 0) = true := by simpa using hn
        clear hn
        go_wp2_with fail
        go_ret
        exact ⟨retT HR.out.symm, hMW⟩
      · have HR := Lib.hid (show jdF F_ k = joF F_ k from if_neg hn)
        have i4 : (0 : Int) < (k : Int) := by omega
        have i5 : ((k : Int) == 0) = false := by simpa using hn
        clear hn
        go_wp2_with fail
        go_ret
        exact ⟨retT HR.out.symm, hMW⟩

set_option maxRecDepth 100000 in
set_option maxHeartbeats 4000000 in
theorem implHLF (a0 a1 : Option Addr) (n0 c0 n1 c1 B : Nat) (zs : List TAS) (a : Option Addr) (n c B' : Nat) (hs : List THop) (w : World) (h : HasAS w B a0 n0 zs) (hB : B ≤ w.heap.size) (hn0 : n0 ≤ 1048576) (hz : ∀ y ∈ zs, TAS.fits y) (hh : HasHop w B' a n hs) (hB' : B' ≤ w.heap.size) (hn : n ≤ 1048576) (hf : ∀ y ∈ hs, THop.fits y) (htab : Lib.TabIs Tryd.prog w "internal/strconv.uint64pow10" .u64 Lib.pow10Tab) :
    Calls Tryd.prog 40 #[.slice a n c, .agg #[.slice a0 n0 c0, .slice a1 n1 c1]] w fun e w' => e = .returned (.string (jdF (segF zs n0 hs) n)) ∧ Mk0 w w' := by
  obtain ⟨i0, hi0, hz0, hz1, hz2⟩ := info_parts infoStr
  have M0 := Mk.alloc w (Obj.cells #[Value.slice a0 n0 c0, Value.slice a1 n1 c1] 31)
  have k0 : (w.alloc (Obj.cells #[Value.slice a0 n0 c0, Value.slice a1 n1 c1] 31)).cell? ⟨w.heap.size, 0, none⟩ = some (.slice a0 n0 c0) := by simp [go_sem]
  have k1 : (w.alloc (Obj.cells #[Value.slice a0 n0 c0, Value.slice a1 n1 c1] 31)).cell? ⟨w.heap.size, 1, none⟩ = some (.slice a1 n1 c1) := by simp [go_sem]
  obtain ⟨F_, hF⟩ : ∃ F_, Hid (F_ = segF zs n0 hs) := ⟨_, Lib.hid rfl⟩
  have HFS : Hid (∀ k, k < n → (F_ k).size ≤ 87) := Lib.hid (fun k hk => by rw [hF.out]; exact segF_size h.1 hz hh.1 hf k hk)
  have HFE : Hid (∀ k : Nat, F_ k = hopT zs n0 (hs.getD k default).nd (hs.getD k default).ing (hs.getD k default).eg) := Lib.hid (fun k => by rw [hF.out]; rfl)
  have HHF : Hid (∀ k, k < n → THop.fits (hs.getD k default)) := Lib.hid (fun k hk => hop_at hh.1 hk hf)
  rw [← hF.out]
  have HZ := Lib.hid hz
  clear hz hf
  generalize hWW : w.alloc (Obj.cells #[Value.slice a0 n0 c0, Value.slice a1 n1 c1] 31) = WW at *
  have k0' := (Mk.alloc WW (.cells #[] 9)).cellAt k0
  have k1' := (Mk.alloc WW (.cells #[] 9)).cellAt k1
  go_enter Tryd.func40, Tryd.ntmps40
  go_wp2_with fail
  clear hWW k0' k1'
  have hl0 := own_emptyR WW 9 1
  have ML := Mk.alloc WW (.cells #[] 9)
  go_loopw [5, 11] (fun v i wr => ∃ k : Nat, k ≤ n ∧ i = .int .i64 k ∧ wr.ownsRow WW.heap.size 9 1 v k (rowC 1 strC (tl F_ k)) ∧ Mk0 WW wr) (fun _ i _ => n - (intOf i).toNat)
  case atStart => exact ⟨0, Nat.zero_le _, rfl, hl0, ML⟩
  case round =>
    clear hl0 ML
    obtain ⟨k, hk, rfl, hown, hM⟩ := hrel
    replace k0 := hM.cellAt k0
    replace k1 := hM.cellAt k1
    have hMW := M0.trans hM
    have hlow := hM.size
    by_cases hlt : k < n
    · have i1 : (0 : Int) ≤ (k : Int) := by omega
      have i2 : (k : Int) < (n : Int) := by omega
      obtain ⟨b, off, x, rfl, hb, hx, d0, d1, d2, d3, d4⟩ := HasHop.at _ _ _ _ _ _ (hh.mk hMW hB' (.inr (Nat.le_refl _))) hlt
      have hbr := World.block_lt_of_cell? _ _ d0
      have hbk := World.block_lt_of_cell? _ _ k0
      simp only at hbr hbk
      obtain ⟨f0, f1, f2, _⟩ := (hx.out ▸ HHF.out k hlt : THop.fits x)
      replace f0 := i64_of f0
      replace f1 := i64_of f1
      replace f2 := i64_of f2
      have HE := Lib.hid (show hopT zs n0 x.nd x.ing x.eg = F_ k by rw [HFE.out k, hx.out])
      have MX := Mk.alloc wr (Obj.cells #[Value.int .i64 x.nd, Value.int .i64 x.ing, Value.int .i64 x.eg, Value.int .i64 x.exp, Value.int .i64 x.mac] 79)
      have MB := hMW.trans MX
      replace k0 := MX.cellAt k0
      replace k1 := MX.cellAt k1
      go_wp2_with fail
      refine (implFHop a0 a1 n0 c0 n1 c1 B zs x.nd x.ing x.eg x.exp x.mac _ (h.mk MB hB (.inr (Nat.le_refl _))) (Nat.le_trans hB MB.size) hn0 HZ.out f0.1 f0.2 f1.1 f1.2 f2.1 f2.2 (tab_mk htab MB)).mono ?_
      rw [HE.out]
      rintro e wC ⟨rfl, mC'⟩
      have mC := MX.trans mC'
      have MA := Mk.alloc wC (.cells #[.string (F_ k)] 9)
      have hownX := own_keptR (own_keptR hown mC) MA
      have hhX := hasR_new (cell := strC) (nc := 1) (by decide) wC 9 (F_ k) #[.string (F_ k)] (fun j hj => by match j, hj with | 0, _ => rfl)
      have hloX := Nat.le_trans (Nat.le_trans hlow mC.size) MA.size
      go_wp2_with (at_builtin; refine wpList_appR (by decide) oneStr rfl (.tmp 15) (.tmp 19) 72 rfl WW.heap.size 9 i0 _ Tryd.underlying72 hi0 hz0 rfl hz1 (by rw [hz2]; decide) _ (tl F_ k) k rfl hownX _ 1 1 [F_ k] rfl (fun h => by cases h) hhX (by omega) hloX ?_; intro v2 w4 hown2 hgr2)
      have M4 := ((hM.trans mC).trans MA).appR hgr2 (fun g hg => (hownX.lt g hg).1)
      go_wp2_with fail
      go_roundw
      case rel => exact ⟨k + 1, by omega, by go_num, by rw [tl_succ]; exact hown2, M4⟩
      case measure => simp [intOf]; omega
    · obtain rfl : k = n := by omega
      obtain ⟨A, C, rfl, hca, hcb⟩ := ownsRow_sliceR2 hown
      have ho := ownsRow_ownR (by decide) hown
      go_wp2_with fail
      refine (implJoD F_ A k C wr.heap.size _ ho.has (Nat.le_refl _) (by omega) hcb (fun j hj => Nat.le_trans (HFS.out j hj) (by decide))).mono ?_
      rintro e w5 ⟨rfl, m5⟩
      go_wp2_with fail
      go_ret
      exact ⟨rfl, hMW.trans m5⟩

set_option maxRecDepth 100000 in
set_option maxHeartbeats 4000000 in
theorem implFSeg (a0 a1 : Option Addr) (n0 c0 n1 c1 B : Nat) (zs : List TAS) (x0 x1 : Int) (a : Option Addr) (n c B' : Nat) (hs : List THop) (w : World) (h : HasAS w B a0 n0 zs) (hB : B ≤ w.heap.size) (hn0 : n0 ≤ 1048576) (hz : ∀ y ∈ zs, TAS.fits y) (hh : HasHop w B' a n hs) (hB' : B' ≤ w.heap.size) (hn : n ≤ 1048576) (hf : ∀ y ∈ hs, THop.fits y) (htab : Lib.TabIs Tryd.prog w "internal/strconv.uint64pow10" .u64 Lib.pow10Tab) :
    Calls Tryd.prog 15 #[.agg #[.slice a0 n0 c0, .slice a1 n1 c1], .agg #[.int .i64 x0, .int .i64 x1, .slice a n c]] w fun e w' => e = .returned (.string (jdF (segF zs n0 hs) n)) ∧ Mk0 w w' := by
  have hfld : ∀ w', (Instr.field 83 (Value.agg #[Value.slice a n c, Value.int .i64 x1]) 0).run Tryd.prog w' = .ok (.slice a n c) w' := fun _ => by kernel_rfl
  have M0 := (Mk.alloc w (Obj.cells #[Value.slice a0 n0 c0, Value.slice a1 n1 c1] 31)).new (Obj.cells #[Value.int .i64 x0, Value.int .i64 x1, Value.slice a n c] 42)
  have k0 : ((w.alloc (Obj.cells #[Value.slice a0 n0 c0, Value.slice a1 n1 c1] 31)).alloc (Obj.cells #[Value.int .i64 x0, Value.int .i64 x1, Value.slice a n c] 42)).cell? ⟨w.heap.size, 0, none⟩ = some (.slice a0 n0 c0) := by simp [go_sem]
  have k1 : ((w.alloc (Obj.cells #[Value.slice a0 n0 c0, Value.slice a1 n1 c1] 31)).alloc (Obj.cells #[Value.int .i64 x0, Value.int .i64 x1, Value.slice a n c] 42)).cell? ⟨w.heap.size, 1, none⟩ = some (.slice a1 n1 c1) := by simp [go_sem]
  have u0 : ((w.alloc (Obj.cells #[Value.slice a0 n0 c0, Value.slice a1 n1 c1] 31)).alloc (Obj.cells #[Value.int .i64 x0, Value.int .i64 x1, Value.slice a n c] 42)).cell? ⟨w.heap.size + 1, 0, none⟩ = some (.int .i64 x0) := by simp [go_sem]
  have u1 : ((w.alloc (Obj.cells #[Value.slice a0 n0 c0, Value.slice a1 n1 c1] 31)).alloc (Obj.cells #[Value.int .i64 x0, Value.int .i64 x1, Value.slice a n c] 42)).cell? ⟨w.heap.size + 1, 1, none⟩ = some (.int .i64 x1) := by simp [go_sem]
  have u2 : ((w.alloc (Obj.cells #[Value.slice a0 n0 c0, Value.slice a1 n1 c1] 31)).alloc (Obj.cells #[Value.int .i64 x0, Value.int .i64 x1, Value.slice a n c] 42)).cell? ⟨w.heap.size + 1, 2, none⟩ = some (.slice a n c) := by simp [go_sem]
  obtain ⟨T, hT⟩ : ∃ T, Hid (jdF (segF zs n0 hs) n = T) := ⟨_, Lib.hid rfl⟩
  rw [hT.out]
  have HZ := Lib.hid hz
  have HF := Lib.hid hf
  clear hz hf
  go_enter Tryd.func15, Tryd.ntmps15
  go_wp2_with fail
  refine wp_region_wk (fun w' => Mk0 ((w.alloc (Obj.cells #[Value.slice a0 n0 c0, Value.slice a1 n1 c1] 31)).alloc (Obj.cells #[Value.int .i64 x0, Value.int .i64 x1, Value.slice a n c] 42)) w' ∧ w'.cell? ⟨w.heap.size, 0, none⟩ = some (.slice a0 n0 c0) ∧ w'.cell? ⟨w.heap.size, 1, none⟩ = some (.slice a1 n1 c1) ∧ w'.cell? ⟨w.heap.size + 1, 0, none⟩ = some (.int .i64 x0) ∧ w'.cell? ⟨w.heap.size + 1, 1, none⟩ = some (.int .i64 x1) ∧ w'.cell? ⟨w.heap.size + 1, 2, none⟩ = some (.slice a n c)) (by kernel_rfl) (by kernel_rfl) (⟨Mk.drew1 _, k0, k1, u0, u1, u2⟩) ?_
  change Wk _ _ _ _ 6 0 _
  first | (refine Wk.skip (m := 5) (k := 0) rfl (by rfl) ?_) | (refine Wk.step (m := 5) (k := 0) (v := _) rfl (by rfl) (fun wv hS => by obtain ⟨s0, s1, s2, s3, s4, s5⟩ := hS; go_simp; try with_reducible rfl) ?_)
  try simp only [Act.put, List.getElem_toArray, List.getElem_cons_zero, List.setIfInBounds_toArray, List.set_cons_zero, List.set_cons_succ]
  refine Wk.call (m := 4) (k := 1) (v := .agg #[.slice a n c, .int .i64 x1]) _ _ rfl (by rfl) (fun wv hS => by obtain ⟨s0, s1, s2, s3, s4, s5⟩ := hS; go_simp; first | done | exact ⟨rfl, rfl⟩ | with_reducible rfl) (fun wv hS => ?_) ?_; · obtain ⟨s0, s1, s2, s3, s4, s5⟩ := hS; refine (chainOf x0 x1 a n c wv).mono ?_; rintro e w' ⟨he, mm⟩; exact ⟨he, s0.trans mm, mm.cellAt s1, mm.cellAt s2, mm.cellAt s3, mm.cellAt s4, mm.cellAt s5⟩
  try simp only [Act.put, List.getElem_toArray, List.getElem_cons_succ, List.getElem_cons_zero, List.setIfInBounds_toArray, List.set_cons_zero, List.set_cons_succ]
  first | (refine Wk.skip (m := 3) (k := 2) rfl (by rfl) ?_) | (refine Wk.step (m := 3) (k := 2) (v := _) rfl (by rfl) (fun wv hS => by obtain ⟨s0, s1, s2, s3, s4, s5⟩ := hS; go_simp; try with_reducible rfl) ?_)
  try simp only [Act.put, List.getElem_toArray, List.getElem_cons_succ, List.getElem_cons_zero, List.setIfInBounds_toArray, List.set_cons_zero, List.set_cons_succ]
  first | (refine Wk.skip (m := 2) (k := 3) rfl (by rfl) ?_) | (refine Wk.step (m := 2) (k := 3) (v := _) rfl (by rfl) (fun wv hS => by obtain ⟨s0, s1, s2, s3, s4, s5⟩ := hS; go_simp; try with_reducible rfl) ?_)
  try simp only [Act.put, List.getElem_toArray, List.getElem_cons_succ, List.getElem_cons_zero, List.setIfInBounds_toArray, List.set_cons_zero, List.set_cons_succ]
  refine Wk.call (m := 1) (k := 4) (v := .string T) _ _ rfl (by rfl) (fun wv hS => by obtain ⟨s0, s1, s2, s3, s4, s5⟩ := hS; go_simp; first | done | exact ⟨rfl, rfl⟩ | with_reducible rfl) (fun wv hS => ?_) ?_; · obtain ⟨s0, s1, s2, s3, s4, s5⟩ := hS; refine (implHLF a0 a1 n0 c0 n1 c1 B zs a n c B' hs wv (h.mk (M0.trans s0) hB (.inr (Nat.le_refl _))) (Nat.le_trans hB (M0.trans s0).size) hn0 HZ.out (hh.mk (M0.trans s0) hB' (.inr (Nat.le_refl _))) (Nat.le_trans hB' (M0.trans s0).size) hn HF.out (tab_mk htab (M0.trans s0))).mono ?_; rintro e w' ⟨he, mm⟩; exact ⟨by rw [he, hT.out], s0.trans mm, mm.cellAt s1, mm.cellAt s2, mm.cellAt s3, mm.cellAt s4, mm.cellAt s5⟩
  try simp only [Act.put, List.getElem_toArray, List.getElem_cons_succ, List.getElem_cons_zero, List.setIfInBounds_toArray, List.set_cons_zero, List.set_cons_succ]
  first | (refine Wk.skip (m := 0) (k := 5) rfl (by rfl) ?_) | (refine Wk.step (m := 0) (k := 5) (v := _) rfl (by rfl) (fun wv hS => by obtain ⟨s0, s1, s2, s3, s4, s5⟩ := hS; go_simp; try with_reducible rfl) ?_)
  try simp only [Act.put, List.getElem_toArray, List.getElem_cons_succ, List.getElem_cons_zero, List.setIfInBounds_toArray, List.set_cons_zero, List.set_cons_succ]
  refine Wk.done fun wE hE => ?_
  clear k0 k1 u0 u1 u2
  obtain ⟨mE, k0, k1, u0, u1, u2⟩ := hE
  go_wp2_with fail
  go_ret
  exact ⟨rfl, M0.trans mE⟩

end Go.Proofs.YthpejolljkbenaaDoor
