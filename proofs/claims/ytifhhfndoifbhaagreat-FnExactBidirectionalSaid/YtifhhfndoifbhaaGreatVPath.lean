
/- VerifyPath of both sides. -/
import Derived.Test.YtifhhfndoifbhaaGreatTurn
import Derived.Test.YtifhhfndoifbhaaGreatEncPath
import Derived.Test.YtifhhfndoifbhaaGreatOPathPart
namespace Go.Proofs.YtifhhfndoifbhaaGreat
open Go.ChangeShapes Go.WideShapes Go.ChangeAt Go.RowKit
set_option linter.unusedVariables false
def vpT (zs : List TAS) (n0 : Nat) (x : TPathPart) : Bool := vpTo zs n0 x.kind x.ts x.beta x.hops x.hops.length
theorem partfit {ps : List TPathPart} {n j : Nat} (hl : ps.length = n) (hj : j < n) (hf : ∀ y ∈ ps, TPathPart.fits y) {x : TPathPart} (hx : x = ps.getD j default) : TPathPart.fits x := by
  subst hx
  have : ps.getD j default ∈ ps := by
    rw [List.getD_eq_getElem?_getD, List.getElem?_eq_getElem (by omega)]
    exact List.getElem_mem _
  exact hf _ this

set_option maxRecDepth 100000 in
set_option maxHeartbeats 4000000 in
theorem implVPath (a0 a1 : Option Addr) (n0 c0 n1 c1 B : Nat) (zs : List TAS) (a : Option Addr) (n c B' : Nat) (ps : List TPathPart) (w : World) (h : HasAS w B a0 n0 zs) (h' : HasPathPart w B' a n ps) (hB : B ≤ w.heap.size) (hB' : B' ≤ w.heap.size) (hn : n0 ≤ 1048576) (hn' : szPathPart ps n ≤ 1048576) (hz : ∀ y ∈ zs, TAS.fits y) (hf : ∀ y ∈ ps, TPathPart.fits y) :
    Calls Tryz.prog 26 #[.agg #[.slice a0 n0 c0, .slice a1 n1 c1], .agg #[.slice a n c]] w fun e w' => e = .returned (.bool (allTo (vpT zs n0) ps n)) ∧ Mk0 w w' := by
  have hn0 : n ≤ 1048576 := Nat.le_trans (szPathPart_n ps n) hn'
  have M0 := (Mk.alloc w (Obj.cells #[Value.slice a0 n0 c0, Value.slice a1 n1 c1] 35)).new (Obj.cells #[Value.slice a n c] 39)
  have HZ := Lib.hid hz
  have HFF := Lib.hid hf
  clear hz hf
  go_enter Tryz.func26, Tryz.ntmps26
  go_wp2_with fail
  go_loopw [4, 10] (fun r i wr => r = .bool false ∧ ∃ k : Nat, k ≤ n ∧ i = .int .i64 k ∧ Hid (allTo (vpT zs n0) ps k = true) ∧ Mk0 ((w.alloc (Obj.cells #[Value.slice a0 n0 c0, Value.slice a1 n1 c1] 35)).alloc (Obj.cells #[Value.slice a n c] 39)) wr) (fun _ i _ => n - (intOf i).toNat)
  case atStart => exact ⟨rfl, 0, Nat.zero_le _, rfl, rfl, Mk.refl _ _ _⟩
  case round =>
    obtain ⟨rfl, k, hk, rfl, hS, hM⟩ := hrel
    have hM' := M0.trans hM
    have k0 : ((w.alloc (Obj.cells #[Value.slice a0 n0 c0, Value.slice a1 n1 c1] 35)).alloc (Obj.cells #[Value.slice a n c] 39)).cell? ⟨w.heap.size, 0, none⟩ = some (.slice a0 n0 c0) := by simp [go_sem]
    replace k0 := hM.cellAt k0
    have k1 : ((w.alloc (Obj.cells #[Value.slice a0 n0 c0, Value.slice a1 n1 c1] 35)).alloc (Obj.cells #[Value.slice a n c] 39)).cell? ⟨w.heap.size, 1, none⟩ = some (.slice a1 n1 c1) := by simp [go_sem]
    replace k1 := hM.cellAt k1
    have j0 : ((w.alloc (Obj.cells #[Value.slice a0 n0 c0, Value.slice a1 n1 c1] 35)).alloc (Obj.cells #[Value.slice a n c] 39)).cell? ⟨w.heap.size + 1, 0, none⟩ = some (.slice a n c) := by simp [go_sem]
    replace j0 := hM.cellAt j0
    have y0 := World.block_lt_of_cell? _ _ k0
    have y1 := World.block_lt_of_cell? _ _ j0
    simp only at y0 y1
    by_cases hlt : k < n
    · obtain ⟨b, off, x, rfl, hb2, hx, a3, n3, c3, d0, d1, d2, d3, r3, m3, t3, z3⟩ := HasPathPart.at _ _ _ _ _ _ (h'.mk hM' hB' (.inr (Nat.le_refl _))) hlt
      have hs3 : n3 ≤ 1048576 := by have HS := szPathPart_at ps hlt; rw [← hx.out] at HS; unfold sePathPart at HS; have := r3.1; omega
      have hbr := World.block_lt_of_cell? _ _ d0
      simp only at hbr
      have hxf := partfit h'.1 hlt HFF.out hx.out
      have h1f := hxf.2.1
      have h2f := hxf.2.2.1
      have HXF := Lib.hid hxf.2.2.2
      clear hxf
      have hB1 := Nat.le_trans hB hM'.size
      have hB1' := Nat.le_trans hB' hM'.size
      have h1 := h.mk hM' hB (.inr (Nat.le_refl _))
      have HV := Lib.hid (show vpTo zs n0 x.kind x.ts x.beta x.hops n3 = vpT zs n0 (ps.getD k default) by rw [← hx.out]; unfold vpT; rw [r3.1])
      cases he : vpT zs n0 (ps.getD k default)
      · have HE := Lib.hid (allTo_stop he n hlt)
        replace HV := Lib.hid (HV.out.trans he)
        clear he
        have MX := Mk.alloc wr (Obj.cells #[Value.int .i64 x.kind, Value.int .i64 x.ts, Value.int .i64 x.beta, Value.slice a3 n3 c3] 50)
        go_wp2_with fail
        refine (implVPart a0 a1 n0 c0 n1 c1 B zs x.kind x.ts x.beta a3 n3 c3 B' x.hops _ (h1.mk MX hB1 (.inr (Nat.le_refl _))) (r3.mk MX hB1' (.inr (Nat.le_refl _))) (Nat.le_trans hB1 MX.size) (Nat.le_trans hB1' MX.size) hn hs3 HZ.out h1f h2f HXF.out).mono ?_
        rintro e w2 ⟨hv, m2⟩
        rw [HV.out] at hv
        subst hv
        have m3 := MX.trans m2
        go_wp2_with fail
        go_ret
        exact ⟨retB HE.out.symm, hM'.trans m3⟩
      · have HE := Lib.hid (allTo_go hS.out he)
        replace HV := Lib.hid (HV.out.trans he)
        clear he
        have MX := Mk.alloc wr (Obj.cells #[Value.int .i64 x.kind, Value.int .i64 x.ts, Value.int .i64 x.beta, Value.slice a3 n3 c3] 50)
        go_wp2_with fail
        refine (implVPart a0 a1 n0 c0 n1 c1 B zs x.kind x.ts x.beta a3 n3 c3 B' x.hops _ (h1.mk MX hB1 (.inr (Nat.le_refl _))) (r3.mk MX hB1' (.inr (Nat.le_refl _))) (Nat.le_trans hB1 MX.size) (Nat.le_trans hB1' MX.size) hn hs3 HZ.out h1f h2f HXF.out).mono ?_
        rintro e w2 ⟨hv, m2⟩
        rw [HV.out] at hv
        subst hv
        have m3 := MX.trans m2
        go_wp2_with fail
        go_roundw
        case rel => exact ⟨rfl, k + 1, by omega, by go_num, HE.out, hM.trans m3⟩
        case measure => simp [intOf]; omega
    · obtain rfl : k = n := by omega
      go_wp2_with fail
      go_ret
      exact ⟨retB hS.out.symm, hM'⟩

set_option maxRecDepth 100000 in
set_option maxHeartbeats 4000000 in
theorem specVPath (a0 a1 : Option Addr) (n0 c0 n1 c1 B : Nat) (zs : List TAS) (a : Option Addr) (n c B' : Nat) (ps : List TPathPart) (w : World) (h : HasAS w B a0 n0 zs) (h' : HasPathPart w B' a n ps) (hB : B ≤ w.heap.size) (hB' : B' ≤ w.heap.size) (hn : n0 ≤ 1048576) (hn' : szPathPart ps n ≤ 1048576) (hz : ∀ y ∈ zs, TAS.fits y) (hf : ∀ y ∈ ps, TPathPart.fits y) :
    Calls Tryz.prog 19 #[.agg #[.slice a0 n0 c0, .slice a1 n1 c1], .agg #[.slice a n c]] w fun e w' => e = .returned (.bool (allTo (vpT zs n0) ps n)) ∧ Mk0 w w' := by
  have hn0 : n ≤ 1048576 := Nat.le_trans (szPathPart_n ps n) hn'
  have M0 := (Mk.alloc w (Obj.cells #[Value.slice a0 n0 c0, Value.slice a1 n1 c1] 35)).new (Obj.cells #[Value.slice a n c] 39)
  have HZ := Lib.hid hz
  have HFF := Lib.hid hf
  clear hz hf
  go_enter Tryz.func19, Tryz.ntmps19
  go_wp2_with fail
  go_loopw [4, 5] (fun r i wr => r = .bool false ∧ ∃ k : Nat, k ≤ n ∧ i = .int .i64 k ∧ Hid (allTo (vpT zs n0) ps k = true) ∧ Mk0 ((w.alloc (Obj.cells #[Value.slice a0 n0 c0, Value.slice a1 n1 c1] 35)).alloc (Obj.cells #[Value.slice a n c] 39)) wr) (fun _ i _ => n - (intOf i).toNat)
  case atStart => exact ⟨rfl, 0, Nat.zero_le _, rfl, rfl, Mk.refl _ _ _⟩
  case round =>
    obtain ⟨rfl, k, hk, rfl, hS, hM⟩ := hrel
    have hM' := M0.trans hM
    have k0 : ((w.alloc (Obj.cells #[Value.slice a0 n0 c0, Value.slice a1 n1 c1] 35)).alloc (Obj.cells #[Value.slice a n c] 39)).cell? ⟨w.heap.size, 0, none⟩ = some (.slice a0 n0 c0) := by simp [go_sem]
    replace k0 := hM.cellAt k0
    have k1 : ((w.alloc (Obj.cells #[Value.slice a0 n0 c0, Value.slice a1 n1 c1] 35)).alloc (Obj.cells #[Value.slice a n c] 39)).cell? ⟨w.heap.size, 1, none⟩ = some (.slice a1 n1 c1) := by simp [go_sem]
    replace k1 := hM.cellAt k1
    have j0 : ((w.alloc (Obj.cells #[Value.slice a0 n0 c0, Value.slice a1 n1 c1] 35)).alloc (Obj.cells #[Value.slice a n c] 39)).cell? ⟨w.heap.size + 1, 0, none⟩ = some (.slice a n c) := by simp [go_sem]
    replace j0 := hM.cellAt j0
    have y0 := World.block_lt_of_cell? _ _ k0
    have y1 := World.block_lt_of_cell? _ _ j0
    simp only at y0 y1
    by_cases hlt : k < n
    · obtain ⟨b, off, x, rfl, hb2, hx, a3, n3, c3, d0, d1, d2, d3, r3, m3, t3, z3⟩ := HasPathPart.at _ _ _ _ _ _ (h'.mk hM' hB' (.inr (Nat.le_refl _))) hlt
      have hs3 : n3 ≤ 1048576 := by have HS := szPathPart_at ps hlt; rw [← hx.out] at HS; unfold sePathPart at HS; have := r3.1; omega
      have hbr := World.block_lt_of_cell? _ _ d0
      simp only at hbr
      have hxf := partfit h'.1 hlt HFF.out hx.out
      have h1f := hxf.2.1
      have h2f := hxf.2.2.1
      have HXF := Lib.hid hxf.2.2.2
      clear hxf
      have hB1 := Nat.le_trans hB hM'.size
      have hB1' := Nat.le_trans hB' hM'.size
      have h1 := h.mk hM' hB (.inr (Nat.le_refl _))
      have HV := Lib.hid (show vpTo zs n0 x.kind x.ts x.beta x.hops n3 = vpT zs n0 (ps.getD k default) by rw [← hx.out]; unfold vpT; rw [r3.1])
      cases he : vpT zs n0 (ps.getD k default)
      · have HE := Lib.hid (allTo_stop he n hlt)
        replace HV := Lib.hid (HV.out.trans he)
        clear he
        go_wp2_with fail
        go_region_with (go_at_call 36; refine (specVPart a0 a1 n0 c0 n1 c1 B zs x.kind x.ts x.beta a3 n3 c3 B' x.hops _ (h1.mk (Mk.drew1 _) hB1 (.inr (Nat.le_refl _))) (r3.mk (Mk.drew1 _) hB1' (.inr (Nat.le_refl _))) hB1 hB1' hn hs3 HZ.out h1f h2f HXF.out).mono ?_; rintro e w2 ⟨hv, m2⟩; rw [HV.out] at hv; subst hv)
        all_goals (
          have m3 : Mk0 wr w2 := ⟨m2.os, m2.tape, m2.output, m2.size, m2.block⟩
          clear m2 d0 d1 d2 d3
          refine ‹∀ (a : Act) (w : World), _ → _› _ _ ?_
          go_wp2_with fail
          go_ret
          exact ⟨retB HE.out.symm, hM'.trans m3⟩)
      · have HE := Lib.hid (allTo_go hS.out he)
        replace HV := Lib.hid (HV.out.trans he)
        clear he
        go_wp2_with fail
        go_region_with (go_at_call 36; refine (specVPart a0 a1 n0 c0 n1 c1 B zs x.kind x.ts x.beta a3 n3 c3 B' x.hops _ (h1.mk (Mk.drew1 _) hB1 (.inr (Nat.le_refl _))) (r3.mk (Mk.drew1 _) hB1' (.inr (Nat.le_refl _))) hB1 hB1' hn hs3 HZ.out h1f h2f HXF.out).mono ?_; rintro e w2 ⟨hv, m2⟩; rw [HV.out] at hv; subst hv)
        all_goals (
          have m3 : Mk0 wr w2 := ⟨m2.os, m2.tape, m2.output, m2.size, m2.block⟩
          clear m2 d0 d1 d2 d3
          refine ‹∀ (a : Act) (w : World), _ → _› _ _ ?_
          go_wp2_with fail
          go_roundw
          case rel => exact ⟨rfl, k + 1, by omega, by go_num, HE.out, hM.trans m3⟩
          case measure => simp [intOf]; omega)
    · obtain rfl : k = n := by omega
      go_wp2_with fail
      go_ret
      exact ⟨retB hS.out.symm, hM'⟩

end Go.Proofs.YtifhhfndoifbhaaGreat
