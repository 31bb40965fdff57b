
/- HasPath of both sides. -/
import Derived.Test.YtcihofjegjiakaaEqPaths
namespace Go.Proofs.Ytcihofjegjiakaa
open Go.ChangeShapes Go.WideShapes Go.ChangeAt Go.RowKit
set_option linter.unusedVariables false
def anyTo {α : Type} [Inhabited α] (p : α → Bool) (zs : List α) : Nat → Bool
  | 0 => false
  | k + 1 => anyTo p zs k || p (zs.getD k default)
theorem anyTo_hit {α : Type} [Inhabited α] {p : α → Bool} {zs : List α} {k : Nat} (h : p (zs.getD k default) = true) : ∀ n, k < n → anyTo p zs n = true
  | 0, hk => absurd hk (by omega)
  | n + 1, hk => by
    rw [anyTo]
    by_cases e : k = n
    · subst e; rw [h]; simp
    · rw [anyTo_hit h n (by omega)]; rfl
theorem anyTo_go {α : Type} [Inhabited α] {p : α → Bool} {zs : List α} {k : Nat} (h0 : anyTo p zs k = false) (h : p (zs.getD k default) = false) : anyTo p zs (k + 1) = false := by
  rw [anyTo, h0, h]; rfl
def isPathT (ps : List TPathPart) (m : Nat) (x : TPath) : Bool := eqListB eqPartT x.parts ps x.parts.length m

set_option maxRecDepth 100000 in
set_option maxHeartbeats 4000000 in
theorem hpFn (a0 a' : Option Addr) (n0 c0 m c' g B B' : Nat) (zs ps : List TPathPart) (w : World) (hc : w.cell? ⟨g, 0, none⟩ = some (.slice a' m c')) (h : HasPathPart w B a0 n0 zs) (h' : HasPathPart w B' a' m ps) (hB : B ≤ w.heap.size) (hB' : B' ≤ w.heap.size) (hn : szPathPart zs n0 ≤ 1048576) (hn' : szPathPart ps m ≤ 1048576) :
    Calls Try.prog 63 #[.agg #[.slice a0 n0 c0], .pointer (some ⟨g, 0, none⟩)] w fun e w' => e = .returned (.bool (eqListB eqPartT zs ps n0 m)) ∧ Mk0 w w' := by
  have M0 := Mk.alloc w (Obj.cells #[Value.slice a0 n0 c0] 29)
  have hg := World.block_lt_of_cell? _ _ hc
  simp only at hg
  have k0 := M0.cellAt hc
  go_enter Try.func63, Try.ntmps63
  go_wp2_with fail
  refine (implEqPaths a0 a' n0 m c0 c' B B' zs ps _ (h.mk M0 hB (.inr (Nat.le_refl _))) (h'.mk M0 hB' (.inr (Nat.le_refl _))) (Nat.le_trans hB M0.size) (Nat.le_trans hB' M0.size) hn hn').mono ?_
  rintro e w2 ⟨rfl, m2⟩
  go_wp2_with fail
  go_ret
  exact ⟨rfl, M0.trans m2⟩

set_option maxRecDepth 100000 in
set_option maxHeartbeats 4000000 in
theorem hpIndex (a a' : Option Addr) (n c m c' g B B' : Nat) (zs : List TPath) (ps : List TPathPart) (w : World) (hc : w.cell? ⟨g, 0, none⟩ = some (.slice a' m c')) (h : HasPath w B a n zs) (h' : HasPathPart w B' a' m ps) (hB : B ≤ w.heap.size) (hB' : B' ≤ w.heap.size) (hn : szPath zs n ≤ 1048576) (hn' : szPathPart ps m ≤ 1048576) :
    Calls Try.prog 91 #[.slice a n c, .func (Fn.func 63) #[] #[.pointer (some ⟨g, 0, none⟩)]] w fun e w' => ∃ i : Int, e = .returned (.int .i64 i) ∧ ((anyTo (isPathT ps m) zs n = true ∧ 0 ≤ i) ∨ (anyTo (isPathT ps m) zs n = false ∧ i = -1)) ∧ Mk0 w w' := by
  have hn0 : n ≤ 1048576 := Nat.le_trans (szPath_n zs n) hn
  go_enter Try.func91, Try.ntmps91
  go_wp2_with fail
  go_loopw [4, 8] (fun r i wr => r = .int .i64 0 ∧ ∃ k : Nat, k ≤ n ∧ i = .int .i64 k ∧ Hid (anyTo (isPathT ps m) zs k = false) ∧ Mk0 w wr) (fun _ i _ => n - (intOf i).toNat)
  case atStart => exact ⟨rfl, 0, Nat.zero_le _, rfl, rfl, Mk.refl _ _ _⟩
  case round =>
    obtain ⟨rfl, k, hk, rfl, hS, hM⟩ := hrel
    by_cases hlt : k < n
    · obtain ⟨b, off, x, rfl, hb, hx, a0, n0, c0, d0, r0, m0, t0, z0⟩ := HasPath.at _ _ _ _ _ _ (h.mk hM hB (.inr (Nat.le_refl _))) hlt
      have hS3 : szPathPart x.parts n0 ≤ 1048576 := by have HS := szPath_at zs hlt; rw [← hx.out] at HS; unfold sePath at HS; rw [r0.1] at HS; omega
      have hB1 := Nat.le_trans hB hM.size
      have hB1' := Nat.le_trans hB' hM.size
      have hcr := hM.cellAt hc
      have h2 := h'.mk hM hB' (.inr (Nat.le_refl _))
      have HV := Lib.hid (show eqListB eqPartT x.parts ps n0 m = isPathT ps m (zs.getD k default) by rw [← hx.out]; unfold isPathT; rw [r0.1])
      cases he : isPathT ps m (zs.getD k default)
      · have HE := Lib.hid (anyTo_go hS.out he)
        replace HV := Lib.hid (HV.out.trans he)
        clear he
        go_wp2_with fail
        refine (hpFn a0 a' n0 c0 m c' g B B' x.parts ps _ hcr r0 h2 hB1 hB1' hS3 hn').mono ?_
        rintro e w2 ⟨hv, m2⟩
        rw [HV.out] at hv
        subst hv
        go_wp2_with fail
        go_roundw
        case rel => exact ⟨rfl, k + 1, by omega, by go_num, HE.out, hM.trans m2⟩
        case measure => simp [intOf]; omega
      · have HE := Lib.hid (anyTo_hit he n hlt)
        replace HV := Lib.hid (HV.out.trans he)
        clear he
        go_wp2_with fail
        refine (hpFn a0 a' n0 c0 m c' g B B' x.parts ps _ hcr r0 h2 hB1 hB1' hS3 hn').mono ?_
        rintro e w2 ⟨hv, m2⟩
        rw [HV.out] at hv
        subst hv
        go_wp2_with fail
        go_ret
        exact ⟨_, rfl, .inl ⟨HE.out, by omega⟩, hM.trans m2⟩
    · obtain rfl : k = n := by omega
      go_wp2_with fail
      go_ret
      exact ⟨_, rfl, .inr ⟨hS.out, rfl⟩, hM⟩

set_option maxRecDepth 100000 in
set_option maxHeartbeats 4000000 in
theorem hpContains (a a' : Option Addr) (n c m c' g B B' : Nat) (zs : List TPath) (ps : List TPathPart) (w : World) (hc : w.cell? ⟨g, 0, none⟩ = some (.slice a' m c')) (h : HasPath w B a n zs) (h' : HasPathPart w B' a' m ps) (hB : B ≤ w.heap.size) (hB' : B' ≤ w.heap.size) (hn : szPath zs n ≤ 1048576) (hn' : szPathPart ps m ≤ 1048576) :
    Calls Try.prog 62 #[.slice a n c, .func (Fn.func 63) #[] #[.pointer (some ⟨g, 0, none⟩)]] w fun e w' => e = .returned (.bool (anyTo (isPathT ps m) zs n)) ∧ Mk0 w w' := by
  go_enter Try.func62, Try.ntmps62
  go_wp2_with fail
  refine (hpIndex a a' n c m c' g B B' zs ps _ hc h h' hB hB' hn hn').mono ?_
  rintro e w2 ⟨i, rfl, hi, m2⟩
  rcases hi with ⟨h1, h2⟩ | ⟨h1, rfl⟩
  · have HH := Lib.hid h1
    have dh : decide (0 ≤ i) = true := by simpa using h2
    clear h1
    go_wp2_with fail
    go_ret
    exact ⟨retB HH.out.symm, m2⟩
  · have HH := Lib.hid h1
    clear h1
    go_wp2_with fail
    go_ret
    exact ⟨retB HH.out.symm, m2⟩

set_option maxRecDepth 100000 in
set_option maxHeartbeats 4000000 in
theorem implHasPath (a a' : Option Addr) (n c m c' B B' : Nat) (zs : List TPath) (ps : List TPathPart) (w : World) (h : HasPath w B a n zs) (h' : HasPathPart w B' a' m ps) (hB : B ≤ w.heap.size) (hB' : B' ≤ w.heap.size) (hn : szPath zs n ≤ 1048576) (hn' : szPathPart ps m ≤ 1048576) :
    Calls Try.prog 29 #[.slice a n c, .agg #[.slice a' m c']] w fun e w' => e = .returned (.bool (anyTo (isPathT ps m) zs n)) ∧ Mk0 w w' := by
  have M0 := Mk.alloc w (Obj.cells #[Value.slice a' m c'] 29)
  have k0 : (w.alloc (Obj.cells #[Value.slice a' m c'] 29)).cell? ⟨w.heap.size, 0, none⟩ = some (.slice a' m c') := by simp [go_sem]
  go_enter Try.func29, Try.ntmps29
  go_wp2_with fail
  refine (hpContains a a' n c m c' w.heap.size B B' zs ps _ k0 (h.mk M0 hB (.inr (Nat.le_refl _))) (h'.mk M0 hB' (.inr (Nat.le_refl _))) (Nat.le_trans hB M0.size) (Nat.le_trans hB' M0.size) hn hn').mono ?_
  rintro e w2 ⟨rfl, m2⟩
  go_wp2_with fail
  go_ret
  exact ⟨rfl, M0.trans m2⟩

set_option maxRecDepth 100000 in
set_option maxHeartbeats 4000000 in
theorem specHasPath (a a' : Option Addr) (n c m c' B B' : Nat) (zs : List TPath) (ps : List TPathPart) (w : World) (h : HasPath w B a n zs) (h' : HasPathPart w B' a' m ps) (hB : B ≤ w.heap.size) (hB' : B' ≤ w.heap.size) (hn : szPath zs n ≤ 1048576) (hn' : szPathPart ps m ≤ 1048576) :
    Calls Try.prog 27 #[.slice a n c, .agg #[.slice a' m c']] w fun e w' => e = .returned (.bool (anyTo (isPathT ps m) zs n)) ∧ Mk0 w w' := by
  have hn0 : n ≤ 1048576 := Nat.le_trans (szPath_n zs n) hn
  have M0 := Mk.alloc w (Obj.cells #[Value.slice a' m c'] 29)
  go_enter Try.func27, Try.ntmps27
  go_wp2_with fail
  go_loopw [4, 5] (fun r i wr => r = .bool false ∧ ∃ k : Nat, k ≤ n ∧ i = .int .i64 k ∧ Hid (anyTo (isPathT ps m) zs k = false) ∧ Mk0 (w.alloc (Obj.cells #[Value.slice a' m c'] 29)) wr) (fun _ i _ => n - (intOf i).toNat)
  case atStart => exact ⟨rfl, 0, Nat.zero_le _, rfl, rfl, Mk.refl _ _ _⟩
  case round =>
    obtain ⟨rfl, k, hk, rfl, hS, hM⟩ := hrel
    have hM' := M0.trans hM
    have k0 : (w.alloc (Obj.cells #[Value.slice a' m c'] 29)).cell? ⟨w.heap.size, 0, none⟩ = some (.slice a' m c') := by simp [go_sem]
    replace k0 := hM.cellAt k0
    have y0 := World.block_lt_of_cell? _ _ k0
    simp only at y0
    by_cases hlt : k < n
    · obtain ⟨b, off, x, rfl, hb, hx, a0, n0, c0, d0, r0, m0, t0, z0⟩ := HasPath.at _ _ _ _ _ _ (h.mk hM' hB (.inr (Nat.le_refl _))) hlt
      have hS3 : szPathPart x.parts n0 ≤ 1048576 := by have HS := szPath_at zs hlt; rw [← hx.out] at HS; unfold sePath at HS; rw [r0.1] at HS; omega
      have hB1 := Nat.le_trans hB hM'.size
      have hB1' := Nat.le_trans hB' hM'.size
      have h2 := h'.mk hM' hB' (.inr (Nat.le_refl _))
      have HV := Lib.hid (show eqListB eqPartT x.parts ps n0 m = isPathT ps m (zs.getD k default) by rw [← hx.out]; unfold isPathT; rw [r0.1])
      cases he : isPathT ps m (zs.getD k default)
      · have HE := Lib.hid (anyTo_go hS.out he)
        replace HV := Lib.hid (HV.out.trans he)
        clear he
        go_wp2_with fail
        go_region_with (go_at_call 24; refine (specEqPaths a0 a' n0 m c0 c' B B' x.parts ps _ (r0.mk (Mk.drew1 _) hB1 (.inr (Nat.le_refl _))) (h2.mk (Mk.drew1 _) hB1' (.inr (Nat.le_refl _))) hB1 hB1' hS3 hn').mono ?_; rintro e w2 ⟨hv, m2⟩; rw [HV.out] at hv; subst hv)
        all_goals (
          have m3 : Mk0 wr w2 := ⟨m2.os, m2.tape, m2.output, m2.size, m2.block⟩
          clear m2 d0
          refine ‹∀ (a : Act) (w : World), _ → _› _ _ ?_
          go_wp2_with fail
          go_roundw
          case rel => exact ⟨rfl, k + 1, by omega, by go_num, HE.out, hM.trans m3⟩
          case measure => simp [intOf]; omega)
      · have HE := Lib.hid (anyTo_hit he n hlt)
        replace HV := Lib.hid (HV.out.trans he)
        clear he
        go_wp2_with fail
        go_region_with (go_at_call 24; refine (specEqPaths a0 a' n0 m c0 c' B B' x.parts ps _ (r0.mk (Mk.drew1 _) hB1 (.inr (Nat.le_refl _))) (h2.mk (Mk.drew1 _) hB1' (.inr (Nat.le_refl _))) hB1 hB1' hS3 hn').mono ?_; rintro e w2 ⟨hv, m2⟩; rw [HV.out] at hv; subst hv)
        all_goals (
          have m3 : Mk0 wr w2 := ⟨m2.os, m2.tape, m2.output, m2.size, m2.block⟩
          clear m2 d0
          refine ‹∀ (a : Act) (w : World), _ → _› _ _ ?_
          go_wp2_with fail
          go_ret
          exact ⟨retB HE.out.symm, hM'.trans m3⟩)
    · obtain rfl : k = n := by omega
      go_wp2_with fail
      go_ret
      exact ⟨retB hS.out.symm, hM'⟩
end Go.Proofs.Ytcihofjegjiakaa
