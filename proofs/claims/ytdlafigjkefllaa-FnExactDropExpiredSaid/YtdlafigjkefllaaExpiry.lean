
/- The least expiry of a segment's hops, by both sides. -/
import Derived.Test.YtdlafigjkefllaaBetaAt
import Derived.Test.YtdlafigjkefllaaPol
namespace Go.Proofs.Ytdlafigjkefllaa
open Go.ChangeShapes Go.WideShapes Go.ChangeAt Go.RowKit
set_option linter.unusedVariables false
/-- The least of the first expiry and those of the first k hops. -/
def expUp (zs : List THop) : Nat → Int
  | 0 => (zs.getD 0 default).exp
  | k + 1 => minV (expUp zs k) (zs.getD k default).exp
def segExp (zs : List THop) (n : Nat) : Int := if n = 0 then 0 else expUp zs n
theorem expUp_one (zs : List THop) : expUp zs 1 = (zs.getD 0 default).exp := by simp [expUp, minV]

set_option maxRecDepth 100000 in
set_option maxHeartbeats 1600000 in
theorem specExpiry (x0 x1 : Int) (a : Option Addr) (n c B : Nat) (zs : List THop) (w : World) (h : HasHop w B a n zs) (hB : B ≤ w.heap.size) (hn : n ≤ 1048576) :
    Calls Try.prog 37 #[.agg #[.int .i64 x0, .int .i64 x1, .slice a n c]] w fun e w' => e = .returned (.int .i64 (segExp zs n)) ∧ Mk0 w w' := by
  by_cases hz : n = 0
  · subst hz
    go_enter Try.func37, Try.ntmps37
    go_wp2
    go_ret
    exact ⟨rfl, Mk.alloc _ _⟩
  · have hp : 0 < n := by omega
    obtain ⟨b, off, x, rfl, hb, hx, d0, d1, d2, d3, d4⟩ := HasHop.at _ _ _ _ _ _ h hp
    simp only [Nat.zero_mul, Nat.add_zero] at d0 d1 d2 d3 d4
    have hbw := Nat.lt_of_lt_of_le hb hB
    have hR : segExp zs n = expUp zs n := if_neg hz
    have HR := Lib.hid hR
    clear hR
    have E1 := Lib.hid ((expUp_one zs).trans (by rw [← hx.out]))
    have hc0 : ((n : Int) == 0) = false := by simpa using hz
    have M0 := Mk.alloc w (Obj.cells #[Value.int .i64 x0, Value.int .i64 x1, Value.slice (some ⟨b, off, none⟩) n c] 82)
    go_enter Try.func37, Try.ntmps37
    go_wp2_with fail
    go_loopw [3, 4] (fun v i wr => ∃ k : Nat, 1 ≤ k ∧ k ≤ n ∧ i = .int .i64 k ∧ v = .int .i64 (expUp zs k) ∧ Mk0 (w.alloc (Obj.cells #[Value.int .i64 x0, Value.int .i64 x1, Value.slice (some ⟨b, off, none⟩) n c] 82)) wr) (fun _ i _ => n - (intOf i).toNat)
    case atStart => exact ⟨1, Nat.le_refl _, by omega, rfl, congrArg (Value.int .i64) E1.out.symm, Mk.refl _ _ _⟩
    case round =>
      clear d0 d1 d2 d3 d4
      obtain ⟨k, hk0, hk, rfl, rfl, hM⟩ := hrel
      have hM' := M0.trans hM
      have k2 : (w.alloc (Obj.cells #[Value.int .i64 x0, Value.int .i64 x1, Value.slice (some ⟨b, off, none⟩) n c] 82)).cell? ⟨w.heap.size, 2, none⟩ = some (.slice (some ⟨b, off, none⟩) n c) := by simp [go_sem]
      replace k2 := hM.cellAt k2
      by_cases hlt : k < n
      · obtain ⟨b2, off2, y, e2, hb2, hy, d0, d1, d2, d3, d4⟩ := HasHop.at _ _ _ _ _ _ (h.mk hM' hB (.inr (Nat.le_refl _))) hlt
        cases e2
        have hbr := World.block_lt_of_cell? _ _ d0
        simp only at hbr
        have E := Lib.hid (show expUp zs (k + 1) = minV (expUp zs k) y.exp by rw [expUp, hy.out])
        go_wp2_with fail
        refine (specMin _ _ _).mono ?_
        rintro e w2 ⟨rfl, m2⟩
        go_wp2_with fail
        go_roundw
        case rel => exact ⟨k + 1, by omega, by omega, by go_num, congrArg (Value.int .i64) E.out.symm, (m2 ▸ hM)⟩
        case measure => simp [intOf]; omega
      · obtain rfl : k = n := by omega
        go_wp2_with fail
        go_ret
        exact ⟨retI HR.out.symm, hM'⟩

set_option maxRecDepth 100000 in
set_option maxHeartbeats 1600000 in
theorem hopsExpiry (a : Option Addr) (n c B : Nat) (zs : List THop) (w : World) (h : HasHop w B a n zs) (hB : B ≤ w.heap.size) (hn : n ≤ 1048576) :
    Calls Try.prog 76 #[.slice a n c] w fun e w' => e = .returned (.int .i64 (segExp zs n)) ∧ Mk0 w w' := by
  by_cases hz : n = 0
  · subst hz
    go_enter Try.func76, Try.ntmps76
    go_wp2
    go_ret
    exact ⟨rfl, Mk.refl _ _ _⟩
  · have hp : 0 < n := by omega
    obtain ⟨b, off, x, rfl, hb, hx, d0, d1, d2, d3, d4⟩ := HasHop.at _ _ _ _ _ _ h hp
    simp only [Nat.zero_mul, Nat.add_zero] at d0 d1 d2 d3 d4
    have hbw := Nat.lt_of_lt_of_le hb hB
    have hR : segExp zs n = expUp zs n := if_neg hz
    have HR := Lib.hid hR
    clear hR
    have hc0 : ((n : Int) == 0) = false := by simpa using hz
    have E1 := Lib.hid (show expUp zs 0 = x.exp by rw [hx.out]; rfl)
    go_enter Try.func76, Try.ntmps76
    go_wp2_with fail
    go_loopw [3, 15] (fun v i wr => ∃ k : Nat, 0 ≤ k ∧ k ≤ n ∧ i = .int .i64 k ∧ v = .int .i64 (expUp zs k) ∧ Mk0 w wr) (fun _ i _ => n - (intOf i).toNat)
    case atStart => exact ⟨0, Nat.le_refl _, by omega, rfl, congrArg (Value.int .i64) E1.out.symm, Mk.refl _ _ _⟩
    case round =>
      clear d0 d1 d2 d3 d4
      obtain ⟨k, hk0, hk, rfl, rfl, hM⟩ := hrel
      have hM' := hM
      by_cases hlt : k < n
      · obtain ⟨b2, off2, y, e2, hb2, hy, d0, d1, d2, d3, d4⟩ := HasHop.at _ _ _ _ _ _ (h.mk hM' hB (.inr (Nat.le_refl _))) hlt
        cases e2
        have hbr := World.block_lt_of_cell? _ _ d0
        simp only at hbr
        have E := Lib.hid (show expUp zs (k + 1) = minV (expUp zs k) y.exp by rw [expUp, hy.out])
        go_wp2_with fail
        refine (implMin _ _ _).mono ?_
        rintro e w2 ⟨rfl, m2⟩
        go_wp2_with fail
        go_roundw
        case rel => exact ⟨k + 1, by omega, by omega, by go_num, congrArg (Value.int .i64) E.out.symm, (hM.trans ((Mk.alloc _ _).trans (Mk.of_below m2)))⟩
        case measure => simp [intOf]; omega
      · obtain rfl : k = n := by omega
        go_wp2_with fail
        go_ret
        exact ⟨retI HR.out.symm, hM'⟩

set_option maxRecDepth 100000 in
set_option maxHeartbeats 1600000 in
theorem implExpiry (x0 x1 : Int) (a : Option Addr) (n c B : Nat) (zs : List THop) (w : World) (h : HasHop w B a n zs) (hB : B ≤ w.heap.size) (hn : n ≤ 1048576) :
    Calls Try.prog 40 #[.agg #[.int .i64 x0, .int .i64 x1, .slice a n c]] w fun e w' => e = .returned (.int .i64 (segExp zs n)) ∧ Mk0 w w' := by
  have hfld : ∀ w', (Instr.field 120 (Value.agg #[Value.slice a n c, Value.int .i64 x1]) 0).run Try.prog w' = .ok (.slice a n c) w' := fun _ => by kernel_rfl
  have M0 := Mk.alloc w (Obj.cells #[Value.int .i64 x0, Value.int .i64 x1, Value.slice a n c] 82)
  go_enter Try.func40, Try.ntmps40
  go_wp2_with fail
  refine (chainOf _ _ _ _ _ _).mono ?_
  rintro e w1 ⟨rfl, m1⟩
  go_wp2_with fail
  refine (hopsExpiry _ _ _ _ zs _ (h.mk (M0.trans m1) hB (.inr (Nat.le_refl _))) (Nat.le_trans hB (M0.trans m1).size) hn).mono ?_
  rintro e w2 ⟨rfl, m2⟩
  go_wp2_with fail
  go_ret
  exact ⟨rfl, (M0.trans m1).trans m2⟩
end Go.Proofs.Ytdlafigjkefllaa
