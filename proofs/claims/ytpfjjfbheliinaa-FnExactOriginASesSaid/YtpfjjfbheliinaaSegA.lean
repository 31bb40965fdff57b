
/- The ends of a segment, by both sides. -/
import Derived.Test.YtpfjjfbheliinaaCSegment
import Derived.Test.YtpfjjfbheliinaaRet
namespace Go.Proofs.Ytpfjjfbheliinaa
open Go.ChangeShapes Go.WideShapes Go.ChangeAt Go.RowKit
set_option linter.unusedVariables false
def segFirst (zs : List THop) (n : Nat) : Int := if n = 0 then -1 else (zs.getD 0 default).nd
def segLast (zs : List THop) (n : Nat) : Int := if n = 0 then -1 else (zs.getD (n - 1) default).nd
def segEnds (zs : List THop) (n : Nat) : Bool := if n = 0 then false else decide ((zs.getD (n - 1) default).eg = 0)

set_option maxRecDepth 100000 in
set_option maxHeartbeats 1600000 in
theorem chainOf (x0 x1 : Int) (a : Option Addr) (n c : Nat) (w : World) :
    Calls Try.prog 123 #[.agg #[.int .i64 x0, .int .i64 x1, .slice a n c]] w fun e w' => e = .returned (.agg #[.slice a n c, .int .i64 x1]) ∧ Mk0 w w' := by
  go_enter Try.func123, Try.ntmps123
  go_wp2
  refine bodyPost_ret (v := .agg #[.slice a n c, .int .i64 x1]) (by simp [results, Try.results123, go_sem]) rfl ⟨rfl, Mk.of_below ?_⟩
  go_grown

set_option maxRecDepth 100000 in
set_option maxHeartbeats 1600000 in
theorem specFirst (x0 x1 : Int) (a : Option Addr) (n c B : Nat) (zs : List THop) (w : World) (h : HasHop w B a n zs) (hB : B ≤ w.heap.size) (hn : n ≤ 1048576) :
    Calls Try.prog 74 #[.agg #[.int .i64 x0, .int .i64 x1, .slice a n c]] w fun e w' => e = .returned (.int .i64 (segFirst zs n)) ∧ Mk0 w w' := by
  by_cases hz : n = 0
  · subst hz
    go_enter Try.func74, Try.ntmps74
    go_wp2
    go_ret
    exact ⟨rfl, Mk.alloc _ _⟩
  · obtain ⟨b, off, x, rfl, hb, hx, d0, d1, d2, d3, d4⟩ := HasHop.at _ _ _ _ _ _ h (show 0 < n by omega)
    have hbw := Nat.lt_of_lt_of_le hb hB
    simp only [Nat.zero_mul, Nat.add_zero] at d0 d1 d2 d3 d4
    have HR : segFirst zs n = x.nd := by unfold segFirst; rw [if_neg hz, hx.out]
    have HQ := Lib.hid HR
    clear HR
    go_enter Try.func74, Try.ntmps74
    go_wp2
    go_ret
    exact ⟨retI HQ.out.symm, Mk.alloc _ _⟩

set_option maxRecDepth 100000 in
set_option maxHeartbeats 1600000 in
theorem implFirst (x0 x1 : Int) (a : Option Addr) (n c B : Nat) (zs : List THop) (w : World) (h : HasHop w B a n zs) (hB : B ≤ w.heap.size) (hn : n ≤ 1048576) :
    Calls Try.prog 76 #[.agg #[.int .i64 x0, .int .i64 x1, .slice a n c]] w fun e w' => e = .returned (.int .i64 (segFirst zs n)) ∧ Mk0 w w' := by
  by_cases hz : n = 0
  · subst hz
    go_enter Try.func76, Try.ntmps76
    go_wp2
    go_ret
    exact ⟨rfl, Mk.alloc _ _⟩
  · obtain ⟨b, off, x, rfl, hb, hx, d0, d1, d2, d3, d4⟩ := HasHop.at _ _ _ _ _ _ h (show 0 < n by omega)
    have hbw := Nat.lt_of_lt_of_le hb hB
    simp only [Nat.zero_mul, Nat.add_zero] at d0 d1 d2 d3 d4
    have HR : segFirst zs n = x.nd := by unfold segFirst; rw [if_neg hz, hx.out]
    have HQ := Lib.hid HR
    clear HR
    go_enter Try.func76, Try.ntmps76
    go_wp2
    go_ret
    exact ⟨retI HQ.out.symm, Mk.alloc _ _⟩

end Go.Proofs.Ytpfjjfbheliinaa
