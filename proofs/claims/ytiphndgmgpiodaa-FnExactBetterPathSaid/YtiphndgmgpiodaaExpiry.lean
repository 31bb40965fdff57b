
/- The least expiry of a segment's hops, by both sides. -/
import Derived.Test.YtiphndgmgpiodaaSegA
import Derived.Test.YtiphndgmgpiodaaMin
namespace Go.Proofs.Ytiphndgmgpiodaa
open Go.ChangeShapes Go.WideShapes Go.ChangeAt Go.RowKit
set_option linter.unusedVariables false
/-- The least of the first expiry and those of the first k hops. -/
def expUp (zs : List THop) : Nat → Int
  | 0 => (zs.getD 0 default).exp
  | k + 1 => minV (expUp zs k) (zs.getD k default).exp
def segExp (zs : List THop) (n : Nat) : Int := if n = 0 then 0 else expUp zs n
theorem expUp_one (zs : List THop) : expUp zs 1 = (zs.getD 0 default).exp := by simp [expUp, minV]
set_option maxRecDepth 100000 in
set_option maxHeartbeats 1600000 in
theorem specMin (a0 a1 : Int) (w : World) : Calls Try.prog 73 #[.int .i64 a0, .int .i64 a1] w fun e w' => e = .returned (.int .i64 (minV a0 a1)) ∧ w = w' := by
  by_cases c : a1 < a0
  · have hv : minV a0 a1 = a1 := if_pos c
    have HV := Lib.hid hv
    clear hv
    go_enter Try.func73, Try.ntmps73
    go_wp2
    go_ret
    exact ⟨retI HV.out.symm, rfl⟩
  · have hv : minV a0 a1 = a0 := if_neg c
    have HV := Lib.hid hv
    clear hv
    have c' : a0 ≤ a1 := by omega
    go_enter Try.func73, Try.ntmps73
    go_wp2
    go_ret
    exact ⟨retI HV.out.symm, rfl⟩

set_option maxRecDepth 100000 in
set_option maxHeartbeats 1600000 in
theorem hopsExpiry (a : Option Addr) (n c B : Nat) (zs : List THop) (w : World) (h : HasHop w B a n zs) (hB : B ≤ w.heap.size) (hn : n ≤ 1048576) :
    Calls Try.prog 144 #[.slice a n c] w fun e w' => e = .returned (.int .i64 (segExp zs n)) ∧ Mk0 w w' := by
  by_cases hz : n = 0
  · subst hz
    go_enter Try.func144, Try.ntmps144
    go_wp2
    go_ret
    exact ⟨rfl, Mk.refl _ _ _⟩
  · have hp : 0 < n := by omega
    obtain ⟨b, off, x, rfl, hb, hx, d0, d1, d2, d3, d4⟩ := HasHop.at _ _ _ _ _ _ h hp
    simp only [Nat.zero_mul, Nat.add_zero] at d0 d1 d2 d3 d4
    have hbw := Nat.lt_of_lt_of_le hb hB
    have hR : segExp zs n = expUp zs n := if_neg hz
    have HR := Lib.hid hR
    clear hR
    have hc0 : ((n : Int) == 0) = false := by simpa using hz
    have E1 := Lib.hid (show expUp zs 0 = x.exp by rw [hx.out]; rfl)
    go_enter Try.func144, Try.ntmps144
    go_wp2_with fail
    go_loopw [3, 15] (fun v i wr => ∃ k : Nat, 0 ≤ k ∧ k ≤ n ∧ i = .int .i64 k ∧ v = .int .i64 (expUp zs k) ∧ Mk0 w wr) (fun _ i _ => n - (intOf i).toNat)
    case atStart => exact ⟨0, Nat.le_refl _, by omega, rfl, congrArg (Value.int .i64) E1.out.symm, Mk.refl _ _ _⟩
    case round =>
      clear d0 d1 d2 d3 d4
      obtain ⟨k, hk0, hk, rfl, rfl, hM⟩ := hrel
      have hM' := hM
      by_cases hlt : k < n
      · obtain ⟨b2, off2, y, e2, hb2, hy, d0, d1, d2, d3, d4⟩ := HasHop.at _ _ _ _ _ _ (h.mk hM' hB (.inr (Nat.le_refl _))) hlt
        cases e2
        have hbr := World.block_lt_of_cell? _ _ d0
        simp only at hbr
        have E := Lib.hid (show expUp zs (k + 1) = minV (expUp zs k) y.exp by rw [expUp, hy.out])
        go_wp2_with fail
        refine (implMin _ _ _).mono ?_
        rintro e w2 ⟨rfl, m2⟩
        go_wp2_with fail
        go_roundw
        case rel => exact ⟨k + 1, by omega, by omega, by go_num, congrArg (Value.int .i64) E.out.symm, (hM.trans ((Mk.alloc _ _).trans (Mk.of_below m2)))⟩
        case measure => simp [intOf]; omega
      · obtain rfl : k = n := by omega
        go_wp2_with fail
        go_ret
        exact ⟨retI HR.out.symm, hM'⟩

end Go.Proofs.Ytiphndgmgpiodaa
