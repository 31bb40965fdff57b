
/- Signers of both sides. -/
import Derived.Test.YtmpanhbjppnpbaaSignAs
import Derived.Test.YtmpanhbjppnpbaaSetOps
namespace Go.Proofs.Ytmpanhbjppnpbaa
open Go.ChangeShapes Go.WideShapes Go.ChangeAt Go.RowKit
set_option linter.unusedVariables false
def sgnUp (zs : List TAS) (n0 : Nat) (l : List Int) (who : Int) (vs : List TSignature) : Nat → Int
  | 0 => 0
  | k + 1 => if (hasB who (vs.getD k default).nd && verB zs n0 l (vs.getD k default)) = true then addV (sgnUp zs n0 l who vs k) (vs.getD k default).nd else sgnUp zs n0 l who vs k
theorem sgn_y {zs : List TAS} {n0 : Nat} {l : List Int} {who : Int} {vs : List TSignature} {k : Nat} {x : TSignature} (hx : x = vs.getD k default) (h1 : hasB who x.nd = true) (h2 : verB zs n0 l x = true) : sgnUp zs n0 l who vs (k + 1) = addV (sgnUp zs n0 l who vs k) x.nd := by
  rw [sgnUp, ← hx, h1, h2]; rfl
theorem sgn_n {zs : List TAS} {n0 : Nat} {l : List Int} {who : Int} {vs : List TSignature} {k : Nat} {x : TSignature} (hx : x = vs.getD k default) (h : hasB who x.nd = false ∨ verB zs n0 l x = false) : sgnUp zs n0 l who vs (k + 1) = sgnUp zs n0 l who vs k := by
  rw [sgnUp, ← hx]
  rcases h with h | h <;> rw [h] <;> simp
set_option maxRecDepth 100000 in
set_option maxHeartbeats 4000000 in
theorem specSigners (a0 a1 : Option Addr) (n0 c0 n1 c1 B : Nat) (zs : List TAS) (av : Option Addr) (nv cv Bv : Nat) (vs : List TSignature) (who : Int) (a : Option Addr) (n c B' : Nat) (l : List Int) (w : World) (h : HasAS w B a0 n0 zs) (hB : B ≤ w.heap.size) (hn0 : n0 ≤ 1048576) (hz : ∀ y ∈ zs, TAS.fits y) (hv : HasSignature w Bv av nv vs) (hBv : Bv ≤ w.heap.size) (hnv : nv ≤ 1048576) (h' : Has .i64 w B' a n l) (hB' : B' ≤ w.heap.size) (hn : n ≤ 1048576) (hc0 : a = none → c = 0) (hf : ∀ z ∈ l, (Lit.int .i64 z).wf = true) :
    Calls Try.prog 25 #[.agg #[.slice a0 n0 c0, .slice a1 n1 c1], .slice av nv cv, .int .i64 who, .slice a n c] w fun e w' => e = .returned (.int .i64 (sgnUp zs n0 l who vs nv)) ∧ Mk0 w w' := by
  have M0 := Mk.alloc w (Obj.cells #[Value.slice a0 n0 c0, Value.slice a1 n1 c1] 35)
  have k0 : (w.alloc (Obj.cells #[Value.slice a0 n0 c0, Value.slice a1 n1 c1] 35)).cell? ⟨w.heap.size, 0, none⟩ = some (.slice a0 n0 c0) := by simp [go_sem]
  have k1 : (w.alloc (Obj.cells #[Value.slice a0 n0 c0, Value.slice a1 n1 c1] 35)).cell? ⟨w.heap.size, 1, none⟩ = some (.slice a1 n1 c1) := by simp [go_sem]
  have HZ := Lib.hid hz
  have HF := Lib.hid hf
  have HC0 := Lib.hid hc0
  clear hz hf hc0
  go_enter Try.func25, Try.ntmps25
  go_wp2_with fail
  go_loopw [9, 10] (fun v i wr => ∃ k : Nat, k ≤ nv ∧ i = .int .i64 k ∧ v = .int .i64 (sgnUp zs n0 l who vs k) ∧ Mk0 (w.alloc (Obj.cells #[Value.slice a0 n0 c0, Value.slice a1 n1 c1] 35)) wr) (fun _ i _ => nv - (intOf i).toNat)
  case atStart => exact ⟨0, Nat.zero_le _, rfl, rfl, Mk.refl _ _ _⟩
  case round =>
    obtain ⟨k, hk, rfl, rfl, hM⟩ := hrel
    replace k0 := hM.cellAt k0
    replace k1 := hM.cellAt k1
    have hM' := M0.trans hM
    by_cases hlt : k < nv
    · obtain ⟨b, off, x, rfl, hb, hx, d0, d1⟩ := HasSignature.at _ _ _ _ _ _ (hv.mk hM' hBv (.inr (Nat.le_refl _))) hlt
      have hbr := World.block_lt_of_cell? _ _ d0
      have hbq := World.block_lt_of_cell? _ _ k0
      simp only at hbr hbq
      have i1 : (0 : Int) ≤ (k : Int) := by omega
      have i2 : (k : Int) < (nv : Int) := by omega
      cases hcq : hasB who x.nd
      · have HE := Lib.hid (sgn_n (zs := zs) (n0 := n0) (l := l) hx.out (.inl hcq))
        have HCq := Lib.hid hcq
        clear hcq
        go_wp2_with fail
        refine wp_region_wk (fun w' => Mk0 wr w' ∧ w'.cell? ⟨w.heap.size, 0, none⟩ = some (.slice a0 n0 c0) ∧ w'.cell? ⟨w.heap.size, 1, none⟩ = some (.slice a1 n1 c1) ∧ w'.cell? ⟨b, off + k * 2, none⟩ = some (.int .i64 x.nd) ∧ w'.cell? ⟨b, off + k * 2 + 1, none⟩ = some (.int .i64 x.val)) (by kernel_rfl) (by kernel_rfl) (⟨Mk.drew1 _, k0, k1, d0, d1⟩) ?_
        change Wk _ _ _ _ 16 0 _
        first | (refine Wk.skip (m := 15) (k := 0) rfl (by rfl) ?_) | (refine Wk.step (m := 15) (k := 0) (v := _) rfl (by rfl) (fun wv hS => by obtain ⟨s0, s1, s2, s3, s4⟩ := hS; go_simp; try with_reducible rfl) ?_)
        try simp only [Act.put, List.getElem_toArray, List.getElem_cons_zero, List.setIfInBounds_toArray, List.set_cons_zero, List.set_cons_succ]
        first | (refine Wk.skip (m := 14) (k := 1) rfl (by rfl) ?_) | (refine Wk.step (m := 14) (k := 1) (v := _) rfl (by rfl) (fun wv hS => by obtain ⟨s0, s1, s2, s3, s4⟩ := hS; go_simp; try with_reducible rfl) ?_)
        try simp only [Act.put, List.getElem_toArray, List.getElem_cons_succ, List.getElem_cons_zero, List.setIfInBounds_toArray, List.set_cons_zero, List.set_cons_succ]
        first | (refine Wk.skip (m := 13) (k := 2) rfl (by rfl) ?_) | (refine Wk.step (m := 13) (k := 2) (v := _) rfl (by rfl) (fun wv hS => by obtain ⟨s0, s1, s2, s3, s4⟩ := hS; go_simp; try with_reducible rfl) ?_)
        try simp only [Act.put, List.getElem_toArray, List.getElem_cons_succ, List.getElem_cons_zero, List.setIfInBounds_toArray, List.set_cons_zero, List.set_cons_succ]
        first | (refine Wk.skip (m := 12) (k := 3) rfl (by rfl) ?_) | (refine Wk.step (m := 12) (k := 3) (v := _) rfl (by rfl) (fun wv hS => by obtain ⟨s0, s1, s2, s3, s4⟩ := hS; go_simp; try with_reducible rfl) ?_)
        try simp only [Act.put, List.getElem_toArray, List.getElem_cons_succ, List.getElem_cons_zero, List.setIfInBounds_toArray, List.set_cons_zero, List.set_cons_succ]
        first | (refine Wk.skip (m := 11) (k := 4) rfl (by rfl) ?_) | (refine Wk.step (m := 11) (k := 4) (v := _) rfl (by rfl) (fun wv hS => by obtain ⟨s0, s1, s2, s3, s4⟩ := hS; go_simp; try with_reducible rfl) ?_)
        try simp only [Act.put, List.getElem_toArray, List.getElem_cons_succ, List.getElem_cons_zero, List.setIfInBounds_toArray, List.set_cons_zero, List.set_cons_succ]
        first | (refine Wk.skip (m := 10) (k := 5) rfl (by rfl) ?_) | (refine Wk.step (m := 10) (k := 5) (v := _) rfl (by rfl) (fun wv hS => by obtain ⟨s0, s1, s2, s3, s4⟩ := hS; go_simp; try with_reducible rfl) ?_)
        try simp only [Act.put, List.getElem_toArray, List.getElem_cons_succ, List.getElem_cons_zero, List.setIfInBounds_toArray, List.set_cons_zero, List.set_cons_succ]
        refine Wk.call (m := 9) (k := 6) (v := .bool false) _ _ rfl (by rfl) (fun wv hS => by obtain ⟨s0, s1, s2, s3, s4⟩ := hS; go_simp; first | done | exact ⟨rfl, rfl⟩ | with_reducible rfl) (fun wv hS => ?_) ?_; · obtain ⟨s0, s1, s2, s3, s4⟩ := hS; refine (specContains who x.nd wv).mono ?_; rintro e w' ⟨he, rfl⟩; exact ⟨by rw [he, HCq.out], ⟨s0, s1, s2, s3, s4⟩⟩
        try simp only [Act.put, List.getElem_toArray, List.getElem_cons_succ, List.getElem_cons_zero, List.setIfInBounds_toArray, List.set_cons_zero, List.set_cons_succ]
        first | (refine Wk.skip (m := 8) (k := 7) rfl (by rfl) ?_) | (refine Wk.step (m := 8) (k := 7) (v := _) rfl (by rfl) (fun wv hS => by obtain ⟨s0, s1, s2, s3, s4⟩ := hS; go_simp; try with_reducible rfl) ?_)
        try simp only [Act.put, List.getElem_toArray, List.getElem_cons_succ, List.getElem_cons_zero, List.setIfInBounds_toArray, List.set_cons_zero, List.set_cons_succ]
        first | (refine Wk.skip (m := 7) (k := 8) rfl (by rfl) ?_) | (refine Wk.step (m := 7) (k := 8) (v := _) rfl (by rfl) (fun wv hS => by obtain ⟨s0, s1, s2, s3, s4⟩ := hS; go_simp; try with_reducible rfl) ?_)
        try simp only [Act.put, List.getElem_toArray, List.getElem_cons_succ, List.getElem_cons_zero, List.setIfInBounds_toArray, List.set_cons_zero, List.set_cons_succ]
        first | (refine Wk.skip (m := 6) (k := 9) rfl (by rfl) ?_) | (refine Wk.step (m := 6) (k := 9) (v := _) rfl (by rfl) (fun wv hS => by obtain ⟨s0, s1, s2, s3, s4⟩ := hS; go_simp; try with_reducible rfl) ?_)
        try simp only [Act.put, List.getElem_toArray, List.getElem_cons_succ, List.getElem_cons_zero, List.setIfInBounds_toArray, List.set_cons_zero, List.set_cons_succ]
        first | (refine Wk.skip (m := 5) (k := 10) rfl (by rfl) ?_) | (refine Wk.step (m := 5) (k := 10) (v := _) rfl (by rfl) (fun wv hS => by obtain ⟨s0, s1, s2, s3, s4⟩ := hS; go_simp; try with_reducible rfl) ?_)
        try simp only [Act.put, List.getElem_toArray, List.getElem_cons_succ, List.getElem_cons_zero, List.setIfInBounds_toArray, List.set_cons_zero, List.set_cons_succ]
        first | (refine Wk.skip (m := 4) (k := 11) rfl (by rfl) ?_) | (refine Wk.step (m := 4) (k := 11) (v := _) rfl (by rfl) (fun wv hS => by obtain ⟨s0, s1, s2, s3, s4⟩ := hS; go_simp; try with_reducible rfl) ?_)
        try simp only [Act.put, List.getElem_toArray, List.getElem_cons_succ, List.getElem_cons_zero, List.setIfInBounds_toArray, List.set_cons_zero, List.set_cons_succ]
        first | (refine Wk.skip (m := 3) (k := 12) rfl (by rfl) ?_) | (refine Wk.step (m := 3) (k := 12) (v := _) rfl (by rfl) (fun wv hS => by obtain ⟨s0, s1, s2, s3, s4⟩ := hS; go_simp; try with_reducible rfl) ?_)
        try simp only [Act.put, List.getElem_toArray, List.getElem_cons_succ, List.getElem_cons_zero, List.setIfInBounds_toArray, List.set_cons_zero, List.set_cons_succ]
        first | (refine Wk.skip (m := 2) (k := 13) rfl (by rfl) ?_) | (refine Wk.step (m := 2) (k := 13) (v := _) rfl (by rfl) (fun wv hS => by obtain ⟨s0, s1, s2, s3, s4⟩ := hS; go_simp; try with_reducible rfl) ?_)
        try simp only [Act.put, List.getElem_toArray, List.getElem_cons_succ, List.getElem_cons_zero, List.setIfInBounds_toArray, List.set_cons_zero, List.set_cons_succ]
        refine Wk.skip (m := 1) (k := 14) rfl (by rfl) ?_
        try simp only [Act.put, List.getElem_toArray, List.getElem_cons_succ, List.getElem_cons_zero, List.setIfInBounds_toArray, List.set_cons_zero, List.set_cons_succ]
        first | (refine Wk.skip (m := 0) (k := 15) rfl (by rfl) ?_) | (refine Wk.step (m := 0) (k := 15) (v := _) rfl (by rfl) (fun wv hS => by obtain ⟨s0, s1, s2, s3, s4⟩ := hS; go_simp; try with_reducible rfl) ?_)
        try simp only [Act.put, List.getElem_toArray, List.getElem_cons_succ, List.getElem_cons_zero, List.setIfInBounds_toArray, List.set_cons_zero, List.set_cons_succ]
        refine Wk.done fun wE hE => ?_
        obtain ⟨mE, k0, k1, d0, d1⟩ := hE
        go_wp2_with fail
        go_roundw
        case rel => exact ⟨k + 1, by omega, by go_num, congrArg (Value.int .i64) HE.out.symm, hM.trans mE⟩
        case measure => simp [intOf]; omega
      · cases hvq : verB zs n0 l x
        · have HE := Lib.hid (sgn_n (zs := zs) (n0 := n0) (l := l) (who := who) hx.out (.inr hvq))
          have HCq := Lib.hid hcq
          have HVq := Lib.hid hvq
          clear hcq hvq
          go_wp2_with fail
          refine wp_region_wk (fun w' => Mk0 wr w' ∧ w'.cell? ⟨w.heap.size, 0, none⟩ = some (.slice a0 n0 c0) ∧ w'.cell? ⟨w.heap.size, 1, none⟩ = some (.slice a1 n1 c1) ∧ w'.cell? ⟨b, off + k * 2, none⟩ = some (.int .i64 x.nd) ∧ w'.cell? ⟨b, off + k * 2 + 1, none⟩ = some (.int .i64 x.val)) (by kernel_rfl) (by kernel_rfl) (⟨Mk.drew1 _, k0, k1, d0, d1⟩) ?_
          change Wk _ _ _ _ 16 0 _
          first | (refine Wk.skip (m := 15) (k := 0) rfl (by rfl) ?_) | (refine Wk.step (m := 15) (k := 0) (v := _) rfl (by rfl) (fun wv hS => by obtain ⟨s0, s1, s2, s3, s4⟩ := hS; go_simp; try with_reducible rfl) ?_)
          try simp only [Act.put, List.getElem_toArray, List.getElem_cons_zero, List.setIfInBounds_toArray, List.set_cons_zero, List.set_cons_succ]
          first | (refine Wk.skip (m := 14) (k := 1) rfl (by rfl) ?_) | (refine Wk.step (m := 14) (k := 1) (v := _) rfl (by rfl) (fun wv hS => by obtain ⟨s0, s1, s2, s3, s4⟩ := hS; go_simp; try with_reducible rfl) ?_)
          try simp only [Act.put, List.getElem_toArray, List.getElem_cons_succ, List.getElem_cons_zero, List.setIfInBounds_toArray, List.set_cons_zero, List.set_cons_succ]
          first | (refine Wk.skip (m := 13) (k := 2) rfl (by rfl) ?_) | (refine Wk.step (m := 13) (k := 2) (v := _) rfl (by rfl) (fun wv hS => by obtain ⟨s0, s1, s2, s3, s4⟩ := hS; go_simp; try with_reducible rfl) ?_)
          try simp only [Act.put, List.getElem_toArray, List.getElem_cons_succ, List.getElem_cons_zero, List.setIfInBounds_toArray, List.set_cons_zero, List.set_cons_succ]
          first | (refine Wk.skip (m := 12) (k := 3) rfl (by rfl) ?_) | (refine Wk.step (m := 12) (k := 3) (v := _) rfl (by rfl) (fun wv hS => by obtain ⟨s0, s1, s2, s3, s4⟩ := hS; go_simp; try with_reducible rfl) ?_)
          try simp only [Act.put, List.getElem_toArray, List.getElem_cons_succ, List.getElem_cons_zero, List.setIfInBounds_toArray, List.set_cons_zero, List.set_cons_succ]
          first | (refine Wk.skip (m := 11) (k := 4) rfl (by rfl) ?_) | (refine Wk.step (m := 11) (k := 4) (v := _) rfl (by rfl) (fun wv hS => by obtain ⟨s0, s1, s2, s3, s4⟩ := hS; go_simp; try with_reducible rfl) ?_)
          try simp only [Act.put, List.getElem_toArray, List.getElem_cons_succ, List.getElem_cons_zero, List.setIfInBounds_toArray, List.set_cons_zero, List.set_cons_succ]
          first | (refine Wk.skip (m := 10) (k := 5) rfl (by rfl) ?_) | (refine Wk.step (m := 10) (k := 5) (v := _) rfl (by rfl) (fun wv hS => by obtain ⟨s0, s1, s2, s3, s4⟩ := hS; go_simp; try with_reducible rfl) ?_)
          try simp only [Act.put, List.getElem_toArray, List.getElem_cons_succ, List.getElem_cons_zero, List.setIfInBounds_toArray, List.set_cons_zero, List.set_cons_succ]
          refine Wk.call (m := 9) (k := 6) (v := .bool true) _ _ rfl (by rfl) (fun wv hS => by obtain ⟨s0, s1, s2, s3, s4⟩ := hS; go_simp; first | done | exact ⟨rfl, rfl⟩ | with_reducible rfl) (fun wv hS => ?_) ?_; · obtain ⟨s0, s1, s2, s3, s4⟩ := hS; refine (specContains who x.nd wv).mono ?_; rintro e w' ⟨he, rfl⟩; exact ⟨by rw [he, HCq.out], ⟨s0, s1, s2, s3, s4⟩⟩
          try simp only [Act.put, List.getElem_toArray, List.getElem_cons_succ, List.getElem_cons_zero, List.setIfInBounds_toArray, List.set_cons_zero, List.set_cons_succ]
          first | (refine Wk.skip (m := 8) (k := 7) rfl (by rfl) ?_) | (refine Wk.step (m := 8) (k := 7) (v := _) rfl (by rfl) (fun wv hS => by obtain ⟨s0, s1, s2, s3, s4⟩ := hS; go_simp; try with_reducible rfl) ?_)
          try simp only [Act.put, List.getElem_toArray, List.getElem_cons_succ, List.getElem_cons_zero, List.setIfInBounds_toArray, List.set_cons_zero, List.set_cons_succ]
          first | (refine Wk.skip (m := 7) (k := 8) rfl (by rfl) ?_) | (refine Wk.step (m := 7) (k := 8) (v := _) rfl (by rfl) (fun wv hS => by obtain ⟨s0, s1, s2, s3, s4⟩ := hS; go_simp; try with_reducible rfl) ?_)
          try simp only [Act.put, List.getElem_toArray, List.getElem_cons_succ, List.getElem_cons_zero, List.setIfInBounds_toArray, List.set_cons_zero, List.set_cons_succ]
          first | (refine Wk.skip (m := 6) (k := 9) rfl (by rfl) ?_) | (refine Wk.step (m := 6) (k := 9) (v := _) rfl (by rfl) (fun wv hS => by obtain ⟨s0, s1, s2, s3, s4⟩ := hS; go_simp; try with_reducible rfl) ?_)
          try simp only [Act.put, List.getElem_toArray, List.getElem_cons_succ, List.getElem_cons_zero, List.setIfInBounds_toArray, List.set_cons_zero, List.set_cons_succ]
          first | (refine Wk.skip (m := 5) (k := 10) rfl (by rfl) ?_) | (refine Wk.step (m := 5) (k := 10) (v := _) rfl (by rfl) (fun wv hS => by obtain ⟨s0, s1, s2, s3, s4⟩ := hS; go_simp; try with_reducible rfl) ?_)
          try simp only [Act.put, List.getElem_toArray, List.getElem_cons_succ, List.getElem_cons_zero, List.setIfInBounds_toArray, List.set_cons_zero, List.set_cons_succ]
          first | (refine Wk.skip (m := 4) (k := 11) rfl (by rfl) ?_) | (refine Wk.step (m := 4) (k := 11) (v := _) rfl (by rfl) (fun wv hS => by obtain ⟨s0, s1, s2, s3, s4⟩ := hS; go_simp; try with_reducible rfl) ?_)
          try simp only [Act.put, List.getElem_toArray, List.getElem_cons_succ, List.getElem_cons_zero, List.setIfInBounds_toArray, List.set_cons_zero, List.set_cons_succ]
          first | (refine Wk.skip (m := 3) (k := 12) rfl (by rfl) ?_) | (refine Wk.step (m := 3) (k := 12) (v := _) rfl (by rfl) (fun wv hS => by obtain ⟨s0, s1, s2, s3, s4⟩ := hS; go_simp; try with_reducible rfl) ?_)
          try simp only [Act.put, List.getElem_toArray, List.getElem_cons_succ, List.getElem_cons_zero, List.setIfInBounds_toArray, List.set_cons_zero, List.set_cons_succ]
          first | (refine Wk.skip (m := 2) (k := 13) rfl (by rfl) ?_) | (refine Wk.step (m := 2) (k := 13) (v := _) rfl (by rfl) (fun wv hS => by obtain ⟨s0, s1, s2, s3, s4⟩ := hS; go_simp; try with_reducible rfl) ?_)
          try simp only [Act.put, List.getElem_toArray, List.getElem_cons_succ, List.getElem_cons_zero, List.setIfInBounds_toArray, List.set_cons_zero, List.set_cons_succ]
          refine Wk.call (m := 1) (k := 14) (v := .bool false) _ _ rfl (by rfl) (fun wv hS => by obtain ⟨s0, s1, s2, s3, s4⟩ := hS; go_simp; first | done | exact ⟨rfl, rfl⟩ | with_reducible rfl) (fun wv hS => ?_) ?_; · obtain ⟨s0, s1, s2, s3, s4⟩ := hS; refine (specVerS a0 a1 n0 c0 n1 c1 B zs x a n c B' l wv (h.mk (hM'.trans s0) hB (.inr (Nat.le_refl _))) (Nat.le_trans hB (hM'.trans s0).size) hn0 HZ.out (hasR_int.1 ((hasR_int.2 h').mk (hM'.trans s0) hB' (.inr (Nat.le_refl _)))) (Nat.le_trans hB' (hM'.trans s0).size) hn HC0.out HF.out).mono ?_; rintro e w' ⟨he, mm⟩; exact ⟨by rw [he, HVq.out], s0.trans mm, mm.cellAt s1, mm.cellAt s2, mm.cellAt s3, mm.cellAt s4⟩
          try simp only [Act.put, List.getElem_toArray, List.getElem_cons_succ, List.getElem_cons_zero, List.setIfInBounds_toArray, List.set_cons_zero, List.set_cons_succ]
          first | (refine Wk.skip (m := 0) (k := 15) rfl (by rfl) ?_) | (refine Wk.step (m := 0) (k := 15) (v := _) rfl (by rfl) (fun wv hS => by obtain ⟨s0, s1, s2, s3, s4⟩ := hS; go_simp; try with_reducible rfl) ?_)
          try simp only [Act.put, List.getElem_toArray, List.getElem_cons_succ, List.getElem_cons_zero, List.setIfInBounds_toArray, List.set_cons_zero, List.set_cons_succ]
          refine Wk.done fun wE hE => ?_
          obtain ⟨mE, k0, k1, d0, d1⟩ := hE
          go_wp2_with fail
          go_roundw
          case rel => exact ⟨k + 1, by omega, by go_num, congrArg (Value.int .i64) HE.out.symm, hM.trans mE⟩
          case measure => simp [intOf]; omega
        · have HE := Lib.hid (sgn_y (zs := zs) (n0 := n0) (l := l) hx.out hcq hvq)
          have HCq := Lib.hid hcq
          have HVq := Lib.hid hvq
          clear hcq hvq
          go_wp2_with fail
          refine wp_region_wk (fun w' => Mk0 wr w' ∧ w'.cell? ⟨w.heap.size, 0, none⟩ = some (.slice a0 n0 c0) ∧ w'.cell? ⟨w.heap.size, 1, none⟩ = some (.slice a1 n1 c1) ∧ w'.cell? ⟨b, off + k * 2, none⟩ = some (.int .i64 x.nd) ∧ w'.cell? ⟨b, off + k * 2 + 1, none⟩ = some (.int .i64 x.val)) (by kernel_rfl) (by kernel_rfl) (⟨Mk.drew1 _, k0, k1, d0, d1⟩) ?_
          change Wk _ _ _ _ 16 0 _
          first | (refine Wk.skip (m := 15) (k := 0) rfl (by rfl) ?_) | (refine Wk.step (m := 15) (k := 0) (v := _) rfl (by rfl) (fun wv hS => by obtain ⟨s0, s1, s2, s3, s4⟩ := hS; go_simp; try with_reducible rfl) ?_)
          try simp only [Act.put, List.getElem_toArray, List.getElem_cons_zero, List.setIfInBounds_toArray, List.set_cons_zero, List.set_cons_succ]
          first | (refine Wk.skip (m := 14) (k := 1) rfl (by rfl) ?_) | (refine Wk.step (m := 14) (k := 1) (v := _) rfl (by rfl) (fun wv hS => by obtain ⟨s0, s1, s2, s3, s4⟩ := hS; go_simp; try with_reducible rfl) ?_)
          try simp only [Act.put, List.getElem_toArray, List.getElem_cons_succ, List.getElem_cons_zero, List.setIfInBounds_toArray, List.set_cons_zero, List.set_cons_succ]
          first | (refine Wk.skip (m := 13) (k := 2) rfl (by rfl) ?_) | (refine Wk.step (m := 13) (k := 2) (v := _) rfl (by rfl) (fun wv hS => by obtain ⟨s0, s1, s2, s3, s4⟩ := hS; go_simp; try with_reducible rfl) ?_)
          try simp only [Act.put, List.getElem_toArray, List.getElem_cons_succ, List.getElem_cons_zero, List.setIfInBounds_toArray, List.set_cons_zero, List.set_cons_succ]
          first | (refine Wk.skip (m := 12) (k := 3) rfl (by rfl) ?_) | (refine Wk.step (m := 12) (k := 3) (v := _) rfl (by rfl) (fun wv hS => by obtain ⟨s0, s1, s2, s3, s4⟩ := hS; go_simp; try with_reducible rfl) ?_)
          try simp only [Act.put, List.getElem_toArray, List.getElem_cons_succ, List.getElem_cons_zero, List.setIfInBounds_toArray, List.set_cons_zero, List.set_cons_succ]
          first | (refine Wk.skip (m := 11) (k := 4) rfl (by rfl) ?_) | (refine Wk.step (m := 11) (k := 4) (v := _) rfl (by rfl) (fun wv hS => by obtain ⟨s0, s1, s2, s3, s4⟩ := hS; go_simp; try with_reducible rfl) ?_)
          try simp only [Act.put, List.getElem_toArray, List.getElem_cons_succ, List.getElem_cons_zero, List.setIfInBounds_toArray, List.set_cons_zero, List.set_cons_succ]
          first | (refine Wk.skip (m := 10) (k := 5) rfl (by rfl) ?_) | (refine Wk.step (m := 10) (k := 5) (v := _) rfl (by rfl) (fun wv hS => by obtain ⟨s0, s1, s2, s3, s4⟩ := hS; go_simp; try with_reducible rfl) ?_)
          try simp only [Act.put, List.getElem_toArray, List.getElem_cons_succ, List.getElem_cons_zero, List.setIfInBounds_toArray, List.set_cons_zero, List.set_cons_succ]
          refine Wk.call (m := 9) (k := 6) (v := .bool true) _ _ rfl (by rfl) (fun wv hS => by obtain ⟨s0, s1, s2, s3, s4⟩ := hS; go_simp; first | done | exact ⟨rfl, rfl⟩ | with_reducible rfl) (fun wv hS => ?_) ?_; · obtain ⟨s0, s1, s2, s3, s4⟩ := hS; refine (specContains who x.nd wv).mono ?_; rintro e w' ⟨he, rfl⟩; exact ⟨by rw [he, HCq.out], ⟨s0, s1, s2, s3, s4⟩⟩
          try simp only [Act.put, List.getElem_toArray, List.getElem_cons_succ, List.getElem_cons_zero, List.setIfInBounds_toArray, List.set_cons_zero, List.set_cons_succ]
          first | (refine Wk.skip (m := 8) (k := 7) rfl (by rfl) ?_) | (refine Wk.step (m := 8) (k := 7) (v := _) rfl (by rfl) (fun wv hS => by obtain ⟨s0, s1, s2, s3, s4⟩ := hS; go_simp; try with_reducible rfl) ?_)
          try simp only [Act.put, List.getElem_toArray, List.getElem_cons_succ, List.getElem_cons_zero, List.setIfInBounds_toArray, List.set_cons_zero, List.set_cons_succ]
          first | (refine Wk.skip (m := 7) (k := 8) rfl (by rfl) ?_) | (refine Wk.step (m := 7) (k := 8) (v := _) rfl (by rfl) (fun wv hS => by obtain ⟨s0, s1, s2, s3, s4⟩ := hS; go_simp; try with_reducible rfl) ?_)
          try simp only [Act.put, List.getElem_toArray, List.getElem_cons_succ, List.getElem_cons_zero, List.setIfInBounds_toArray, List.set_cons_zero, List.set_cons_succ]
          first | (refine Wk.skip (m := 6) (k := 9) rfl (by rfl) ?_) | (refine Wk.step (m := 6) (k := 9) (v := _) rfl (by rfl) (fun wv hS => by obtain ⟨s0, s1, s2, s3, s4⟩ := hS; go_simp; try with_reducible rfl) ?_)
          try simp only [Act.put, List.getElem_toArray, List.getElem_cons_succ, List.getElem_cons_zero, List.setIfInBounds_toArray, List.set_cons_zero, List.set_cons_succ]
          first | (refine Wk.skip (m := 5) (k := 10) rfl (by rfl) ?_) | (refine Wk.step (m := 5) (k := 10) (v := _) rfl (by rfl) (fun wv hS => by obtain ⟨s0, s1, s2, s3, s4⟩ := hS; go_simp; try with_reducible rfl) ?_)
          try simp only [Act.put, List.getElem_toArray, List.getElem_cons_succ, List.getElem_cons_zero, List.setIfInBounds_toArray, List.set_cons_zero, List.set_cons_succ]
          first | (refine Wk.skip (m := 4) (k := 11) rfl (by rfl) ?_) | (refine Wk.step (m := 4) (k := 11) (v := _) rfl (by rfl) (fun wv hS => by obtain ⟨s0, s1, s2, s3, s4⟩ := hS; go_simp; try with_reducible rfl) ?_)
          try simp only [Act.put, List.getElem_toArray, List.getElem_cons_succ, List.getElem_cons_zero, List.setIfInBounds_toArray, List.set_cons_zero, List.set_cons_succ]
          first | (refine Wk.skip (m := 3) (k := 12) rfl (by rfl) ?_) | (refine Wk.step (m := 3) (k := 12) (v := _) rfl (by rfl) (fun wv hS => by obtain ⟨s0, s1, s2, s3, s4⟩ := hS; go_simp; try with_reducible rfl) ?_)
          try simp only [Act.put, List.getElem_toArray, List.getElem_cons_succ, List.getElem_cons_zero, List.setIfInBounds_toArray, List.set_cons_zero, List.set_cons_succ]
          first | (refine Wk.skip (m := 2) (k := 13) rfl (by rfl) ?_) | (refine Wk.step (m := 2) (k := 13) (v := _) rfl (by rfl) (fun wv hS => by obtain ⟨s0, s1, s2, s3, s4⟩ := hS; go_simp; try with_reducible rfl) ?_)
          try simp only [Act.put, List.getElem_toArray, List.getElem_cons_succ, List.getElem_cons_zero, List.setIfInBounds_toArray, List.set_cons_zero, List.set_cons_succ]
          refine Wk.call (m := 1) (k := 14) (v := .bool true) _ _ rfl (by rfl) (fun wv hS => by obtain ⟨s0, s1, s2, s3, s4⟩ := hS; go_simp; first | done | exact ⟨rfl, rfl⟩ | with_reducible rfl) (fun wv hS => ?_) ?_; · obtain ⟨s0, s1, s2, s3, s4⟩ := hS; refine (specVerS a0 a1 n0 c0 n1 c1 B zs x a n c B' l wv (h.mk (hM'.trans s0) hB (.inr (Nat.le_refl _))) (Nat.le_trans hB (hM'.trans s0).size) hn0 HZ.out (hasR_int.1 ((hasR_int.2 h').mk (hM'.trans s0) hB' (.inr (Nat.le_refl _)))) (Nat.le_trans hB' (hM'.trans s0).size) hn HC0.out HF.out).mono ?_; rintro e w' ⟨he, mm⟩; exact ⟨by rw [he, HVq.out], s0.trans mm, mm.cellAt s1, mm.cellAt s2, mm.cellAt s3, mm.cellAt s4⟩
          try simp only [Act.put, List.getElem_toArray, List.getElem_cons_succ, List.getElem_cons_zero, List.setIfInBounds_toArray, List.set_cons_zero, List.set_cons_succ]
          first | (refine Wk.skip (m := 0) (k := 15) rfl (by rfl) ?_) | (refine Wk.step (m := 0) (k := 15) (v := _) rfl (by rfl) (fun wv hS => by obtain ⟨s0, s1, s2, s3, s4⟩ := hS; go_simp; try with_reducible rfl) ?_)
          try simp only [Act.put, List.getElem_toArray, List.getElem_cons_succ, List.getElem_cons_zero, List.setIfInBounds_toArray, List.set_cons_zero, List.set_cons_succ]
          refine Wk.done fun wE hE => ?_
          obtain ⟨mE, k0, k1, d0, d1⟩ := hE
          go_wp2_with fail
          refine (specAddElement _ x.nd _).mono ?_
          rintro e w' ⟨rfl, rfl⟩
          go_wp2_with fail
          go_roundw
          case rel => exact ⟨k + 1, by omega, by go_num, congrArg (Value.int .i64) HE.out.symm, hM.trans mE⟩
          case measure => simp [intOf]; omega
    · obtain rfl : k = nv := by omega
      go_wp2_with fail
      go_ret
      exact ⟨rfl, hM'⟩

set_option maxRecDepth 100000 in
set_option maxHeartbeats 4000000 in
theorem implSigners (a0 a1 : Option Addr) (n0 c0 n1 c1 B : Nat) (zs : List TAS) (av : Option Addr) (nv cv Bv : Nat) (vs : List TSignature) (who : Int) (a : Option Addr) (n c B' : Nat) (l : List Int) (w : World) (h : HasAS w B a0 n0 zs) (hB : B ≤ w.heap.size) (hn0 : n0 ≤ 1048576) (hz : ∀ y ∈ zs, TAS.fits y) (hv : HasSignature w Bv av nv vs) (hBv : Bv ≤ w.heap.size) (hnv : nv ≤ 1048576) (h' : Has .i64 w B' a n l) (hB' : B' ≤ w.heap.size) (hn : n ≤ 1048576) (hc0 : a = none → c = 0) (hf : ∀ z ∈ l, (Lit.int .i64 z).wf = true) :
    Calls Try.prog 27 #[.agg #[.slice a0 n0 c0, .slice a1 n1 c1], .slice av nv cv, .int .i64 who, .slice a n c] w fun e w' => e = .returned (.int .i64 (sgnUp zs n0 l who vs nv)) ∧ Mk0 w w' := by
  have M0 := Mk.alloc w (Obj.cells #[Value.slice a0 n0 c0, Value.slice a1 n1 c1] 35)
  have k0 : (w.alloc (Obj.cells #[Value.slice a0 n0 c0, Value.slice a1 n1 c1] 35)).cell? ⟨w.heap.size, 0, none⟩ = some (.slice a0 n0 c0) := by simp [go_sem]
  have k1 : (w.alloc (Obj.cells #[Value.slice a0 n0 c0, Value.slice a1 n1 c1] 35)).cell? ⟨w.heap.size, 1, none⟩ = some (.slice a1 n1 c1) := by simp [go_sem]
  have HZ := Lib.hid hz
  have HF := Lib.hid hf
  have HC0 := Lib.hid hc0
  clear hz hf hc0
  go_enter Try.func27, Try.ntmps27
  go_wp2_with fail
  go_loopw [9, 14] (fun v i wr => ∃ k : Nat, k ≤ nv ∧ i = .int .i64 k ∧ v = .int .i64 (sgnUp zs n0 l who vs k) ∧ Mk0 (w.alloc (Obj.cells #[Value.slice a0 n0 c0, Value.slice a1 n1 c1] 35)) wr) (fun _ i _ => nv - (intOf i).toNat)
  case atStart => exact ⟨0, Nat.zero_le _, rfl, rfl, Mk.refl _ _ _⟩
  case round =>
    obtain ⟨k, hk, rfl, rfl, hM⟩ := hrel
    replace k0 := hM.cellAt k0
    replace k1 := hM.cellAt k1
    have hM' := M0.trans hM
    by_cases hlt : k < nv
    · obtain ⟨b, off, x, rfl, hb, hx, d0, d1⟩ := HasSignature.at _ _ _ _ _ _ (hv.mk hM' hBv (.inr (Nat.le_refl _))) hlt
      have hbr := World.block_lt_of_cell? _ _ d0
      have hbq := World.block_lt_of_cell? _ _ k0
      simp only at hbr hbq
      have i1 : (0 : Int) ≤ (k : Int) := by omega
      have i2 : (k : Int) < (nv : Int) := by omega
      cases hcq : hasB who x.nd
      · have HE := Lib.hid (sgn_n (zs := zs) (n0 := n0) (l := l) hx.out (.inl hcq))
        have HCq := Lib.hid hcq
        clear hcq
        have MX := Mk.alloc wr (Obj.cells #[Value.int .i64 x.nd, Value.int .i64 x.val] 54)
        have q0 : (wr.alloc (Obj.cells #[Value.int .i64 x.nd, Value.int .i64 x.val] 54)).cell? ⟨wr.heap.size, 0, none⟩ = some (.int .i64 x.nd) := by simp [go_sem]
        have q1 : (wr.alloc (Obj.cells #[Value.int .i64 x.nd, Value.int .i64 x.val] 54)).cell? ⟨wr.heap.size, 1, none⟩ = some (.int .i64 x.val) := by simp [go_sem]
        replace k0 := MX.cellAt k0
        replace k1 := MX.cellAt k1
        have MZ := hM'.trans MX
        have hMX := hM.trans MX
        go_wp2_with fail
        refine (implContains who x.nd _).mono ?_
        rintro e w' ⟨he, rfl⟩
        rw [HCq.out] at he
        subst he
        go_wp2_with fail
        go_roundw
        case rel => exact ⟨k + 1, by omega, by go_num, congrArg (Value.int .i64) HE.out.symm, hMX⟩
        case measure => simp [intOf]; omega
      · cases hvq : verB zs n0 l x
        · have HE := Lib.hid (sgn_n (zs := zs) (n0 := n0) (l := l) (who := who) hx.out (.inr hvq))
          have HCq := Lib.hid hcq
          have HVq := Lib.hid hvq
          clear hcq hvq
          have MX := Mk.alloc wr (Obj.cells #[Value.int .i64 x.nd, Value.int .i64 x.val] 54)
          have q0 : (wr.alloc (Obj.cells #[Value.int .i64 x.nd, Value.int .i64 x.val] 54)).cell? ⟨wr.heap.size, 0, none⟩ = some (.int .i64 x.nd) := by simp [go_sem]
          have q1 : (wr.alloc (Obj.cells #[Value.int .i64 x.nd, Value.int .i64 x.val] 54)).cell? ⟨wr.heap.size, 1, none⟩ = some (.int .i64 x.val) := by simp [go_sem]
          replace k0 := MX.cellAt k0
          replace k1 := MX.cellAt k1
          have MZ := hM'.trans MX
          have hMX := hM.trans MX
          go_wp2_with fail
          refine (implContains who x.nd _).mono ?_
          rintro e w' ⟨he, rfl⟩
          rw [HCq.out] at he
          subst he
          go_wp2_with fail
          refine (implVerS a0 a1 n0 c0 n1 c1 B zs x a n c B' l _ (h.mk MZ hB (.inr (Nat.le_refl _))) (Nat.le_trans hB MZ.size) hn0 HZ.out (hasR_int.1 ((hasR_int.2 h').mk MZ hB' (.inr (Nat.le_refl _)))) (Nat.le_trans hB' MZ.size) hn HC0.out HF.out).mono ?_
          rintro e w3 ⟨he, m3⟩
          rw [HVq.out] at he
          subst he
          replace q0 := m3.cellAt q0
          have hMX3 := hMX.trans m3
          have hb3 := World.block_lt_of_cell? _ _ q0
          simp only at hb3
          go_wp2_with fail
          go_roundw
          case rel => exact ⟨k + 1, by omega, by go_num, congrArg (Value.int .i64) HE.out.symm, hMX3⟩
          case measure => simp [intOf]; omega
        · have HE := Lib.hid (sgn_y (zs := zs) (n0 := n0) (l := l) hx.out hcq hvq)
          have HCq := Lib.hid hcq
          have HVq := Lib.hid hvq
          clear hcq hvq
          have MX := Mk.alloc wr (Obj.cells #[Value.int .i64 x.nd, Value.int .i64 x.val] 54)
          have q0 : (wr.alloc (Obj.cells #[Value.int .i64 x.nd, Value.int .i64 x.val] 54)).cell? ⟨wr.heap.size, 0, none⟩ = some (.int .i64 x.nd) := by simp [go_sem]
          have q1 : (wr.alloc (Obj.cells #[Value.int .i64 x.nd, Value.int .i64 x.val] 54)).cell? ⟨wr.heap.size, 1, none⟩ = some (.int .i64 x.val) := by simp [go_sem]
          replace k0 := MX.cellAt k0
          replace k1 := MX.cellAt k1
          have MZ := hM'.trans MX
          have hMX := hM.trans MX
          go_wp2_with fail
          refine (implContains who x.nd _).mono ?_
          rintro e w' ⟨he, rfl⟩
          rw [HCq.out] at he
          subst he
          go_wp2_with fail
          refine (implVerS a0 a1 n0 c0 n1 c1 B zs x a n c B' l _ (h.mk MZ hB (.inr (Nat.le_refl _))) (Nat.le_trans hB MZ.size) hn0 HZ.out (hasR_int.1 ((hasR_int.2 h').mk MZ hB' (.inr (Nat.le_refl _)))) (Nat.le_trans hB' MZ.size) hn HC0.out HF.out).mono ?_
          rintro e w3 ⟨he, m3⟩
          rw [HVq.out] at he
          subst he
          replace q0 := m3.cellAt q0
          have hMX3 := hMX.trans m3
          have hb3 := World.block_lt_of_cell? _ _ q0
          simp only at hb3
          go_wp2_with fail
          refine (implAddElement _ x.nd _).mono ?_
          rintro e w' ⟨rfl, rfl⟩
          go_wp2_with fail
          go_roundw
          case rel => exact ⟨k + 1, by omega, by go_num, congrArg (Value.int .i64) HE.out.symm, hMX3⟩
          case measure => simp [intOf]; omega
    · obtain rfl : k = nv := by omega
      go_wp2_with fail
      go_ret
      exact ⟨rfl, hM'⟩

end Go.Proofs.Ytmpanhbjppnpbaa
