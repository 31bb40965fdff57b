
/- The ends of a segment, by both sides. -/
import Derived.Test.YtefjbnbibmiccaaGreatDoorCSegment
import Derived.Test.YtefjbnbibmiccaaGreatDoorRet
namespace Go.Proofs.YtefjbnbibmiccaaGreatDoor
open Go.ChangeShapes Go.WideShapes Go.ChangeAt Go.RowKit
set_option linter.unusedVariables false
def segFirst (zs : List THop) (n : Nat) : Int := if n = 0 then -1 else (zs.getD 0 default).nd
def segLast (zs : List THop) (n : Nat) : Int := if n = 0 then -1 else (zs.getD (n - 1) default).nd
def segEnds (zs : List THop) (n : Nat) : Bool := if n = 0 then false else decide ((zs.getD (n - 1) default).eg = 0)

set_option maxRecDepth 100000 in
set_option maxHeartbeats 1600000 in
theorem hopsLast (a : Option Addr) (m c B : Nat) (zs : List THop) (x : THop) (w : World) (h : HasHop w B a (m + 1) zs) (hB : B ≤ w.heap.size) (hn : m + 1 ≤ 1048576) (hx0 : x = zs.getD m default) :
    Calls Tryz.prog 48 #[.slice a (m + 1) c] w fun e w' => e = .returned (.agg #[.int .i64 x.nd, .int .i64 x.ing, .int .i64 x.eg, .int .i64 x.exp, .int .i64 x.mac]) ∧ Mk0 w w' := by
  have HX := Lib.hid hx0
  clear hx0
  obtain ⟨b, off, y, rfl, hb, hx, d0, d1, d2, d3, d4⟩ := HasHop.at _ _ _ _ _ _ h (Nat.lt_succ_self m)
  obtain rfl : y = x := hx.out.trans HX.out.symm
  have hbw := Nat.lt_of_lt_of_le hb hB
  go_enter Tryz.func48, Tryz.ntmps48
  go_wp2
  refine bodyPost_ret (v := .agg #[.int .i64 y.nd, .int .i64 y.ing, .int .i64 y.eg, .int .i64 y.exp, .int .i64 y.mac]) (by simp [results, Tryz.results48, go_sem]) rfl ⟨rfl, Mk.of_below ?_⟩
  go_grown

set_option maxRecDepth 100000 in
set_option maxHeartbeats 1600000 in
theorem chainOf (x0 x1 : Int) (a : Option Addr) (n c : Nat) (w : World) :
    Calls Tryz.prog 47 #[.agg #[.int .i64 x0, .int .i64 x1, .slice a n c]] w fun e w' => e = .returned (.agg #[.slice a n c, .int .i64 x1]) ∧ Mk0 w w' := by
  go_enter Tryz.func47, Tryz.ntmps47
  go_wp2
  refine bodyPost_ret (v := .agg #[.slice a n c, .int .i64 x1]) (by simp [results, Tryz.results47, go_sem]) rfl ⟨rfl, Mk.of_below ?_⟩
  go_grown

set_option maxRecDepth 100000 in
set_option maxHeartbeats 1600000 in
theorem specFirst (x0 x1 : Int) (a : Option Addr) (n c B : Nat) (zs : List THop) (w : World) (h : HasHop w B a n zs) (hB : B ≤ w.heap.size) (hn : n ≤ 1048576) :
    Calls Tryz.prog 55 #[.agg #[.int .i64 x0, .int .i64 x1, .slice a n c]] w fun e w' => e = .returned (.int .i64 (segFirst zs n)) ∧ Mk0 w w' := by
  by_cases hz : n = 0
  · subst hz
    go_enter Tryz.func55, Tryz.ntmps55
    go_wp2
    go_ret
    exact ⟨rfl, Mk.alloc _ _⟩
  · obtain ⟨b, off, x, rfl, hb, hx, d0, d1, d2, d3, d4⟩ := HasHop.at _ _ _ _ _ _ h (show 0 < n by omega)
    have hbw := Nat.lt_of_lt_of_le hb hB
    simp only [Nat.zero_mul, Nat.add_zero] at d0 d1 d2 d3 d4
    have HR : segFirst zs n = x.nd := by unfold segFirst; rw [if_neg hz, hx.out]
    have HQ := Lib.hid HR
    clear HR
    go_enter Tryz.func55, Tryz.ntmps55
    go_wp2
    go_ret
    exact ⟨retI HQ.out.symm, Mk.alloc _ _⟩

set_option maxRecDepth 100000 in
set_option maxHeartbeats 1600000 in
theorem implFirst (x0 x1 : Int) (a : Option Addr) (n c B : Nat) (zs : List THop) (w : World) (h : HasHop w B a n zs) (hB : B ≤ w.heap.size) (hn : n ≤ 1048576) :
    Calls Tryz.prog 67 #[.agg #[.int .i64 x0, .int .i64 x1, .slice a n c]] w fun e w' => e = .returned (.int .i64 (segFirst zs n)) ∧ Mk0 w w' := by
  by_cases hz : n = 0
  · subst hz
    go_enter Tryz.func67, Tryz.ntmps67
    go_wp2
    go_ret
    exact ⟨rfl, Mk.alloc _ _⟩
  · obtain ⟨b, off, x, rfl, hb, hx, d0, d1, d2, d3, d4⟩ := HasHop.at _ _ _ _ _ _ h (show 0 < n by omega)
    have hbw := Nat.lt_of_lt_of_le hb hB
    simp only [Nat.zero_mul, Nat.add_zero] at d0 d1 d2 d3 d4
    have HR : segFirst zs n = x.nd := by unfold segFirst; rw [if_neg hz, hx.out]
    have HQ := Lib.hid HR
    clear HR
    go_enter Tryz.func67, Tryz.ntmps67
    go_wp2
    go_ret
    exact ⟨retI HQ.out.symm, Mk.alloc _ _⟩

set_option maxRecDepth 100000 in
set_option maxHeartbeats 1600000 in
theorem specTermd (x0 x1 : Int) (a : Option Addr) (n c B : Nat) (zs : List THop) (w : World) (h : HasHop w B a n zs) (hB : B ≤ w.heap.size) (hn : n ≤ 1048576) :
    Calls Tryz.prog 37 #[.agg #[.int .i64 x0, .int .i64 x1, .slice a n c]] w fun e w' => e = .returned (.bool (segEnds zs n)) ∧ Mk0 w w' := by
  by_cases hz : n = 0
  · subst hz
    go_enter Tryz.func37, Tryz.ntmps37
    go_wp2_with fail
    go_ret
    exact ⟨rfl, Mk.alloc _ _⟩
  · obtain ⟨m, rfl⟩ : ∃ m, n = m + 1 := ⟨n - 1, by omega⟩
    obtain ⟨b, off, x, rfl, hb, hx, d0, d1, d2, d3, d4⟩ := HasHop.at _ _ _ _ _ _ h (Nat.lt_succ_self m)
    have hbw := Nat.lt_of_lt_of_le hb hB
    have HR : segEnds zs (m + 1) = decide (x.eg = 0) := by unfold segEnds; rw [if_neg (by omega), hx.out]; rfl
    have HQ := Lib.hid HR
    clear HR
    go_enter Tryz.func37, Tryz.ntmps37
    go_wp2_with fail
    go_ret
    exact ⟨retB (by rw [HQ.out]; rfl), Mk.alloc _ _⟩

set_option maxRecDepth 100000 in
set_option maxHeartbeats 1600000 in
theorem implTermd (x0 x1 : Int) (a : Option Addr) (n c B : Nat) (zs : List THop) (w : World) (h : HasHop w B a n zs) (hB : B ≤ w.heap.size) (hn : n ≤ 1048576) :
    Calls Tryz.prog 39 #[.agg #[.int .i64 x0, .int .i64 x1, .slice a n c]] w fun e w' => e = .returned (.bool (segEnds zs n)) ∧ Mk0 w w' := by
  by_cases hz : n = 0
  · subst hz
    go_enter Tryz.func39, Tryz.ntmps39
    go_wp2_with fail
    go_ret
    exact ⟨rfl, Mk.alloc _ _⟩
  · obtain ⟨m, rfl⟩ : ∃ m, n = m + 1 := ⟨n - 1, by omega⟩
    obtain ⟨x, hx⟩ : ∃ x, Hid (x = zs.getD m default) := ⟨_, rfl⟩
    have HR : segEnds zs (m + 1) = decide (x.eg = 0) := by unfold segEnds; rw [if_neg (by omega), hx.out]; rfl
    have HQ := Lib.hid HR
    clear HR
    have hf0 : ∀ w', (Instr.field 67 (Value.agg #[.int .i64 x.nd, .int .i64 x.ing, .int .i64 x.eg, .int .i64 x.exp, .int .i64 x.mac]) 2).run Tryz.prog w' = .ok (.int .i64 x.eg) w' := fun _ => by kernel_rfl
    have hfld : ∀ w', (Instr.field 72 (Value.agg #[Value.slice a (m + 1) c, Value.int .i64 x1]) 0).run Tryz.prog w' = .ok (.slice a (m + 1) c) w' := fun _ => by kernel_rfl
    go_enter Tryz.func39, Tryz.ntmps39
    go_wp2_with fail
    have M0 := Mk.alloc w (Obj.cells #[Value.int .i64 x0, Value.int .i64 x1, Value.slice a (m + 1) c] 39)
    refine (chainOf _ _ _ _ _ _).mono ?_
    rintro e w1 ⟨rfl, m1⟩
    have M1 := M0.trans m1
    go_wp2_with fail
    refine (hopsLast _ _ _ _ zs x _ (h.mk M1 hB (.inr (Nat.le_refl _))) (Nat.le_trans hB M1.size) hn hx.out).mono ?_
    rintro e w2 ⟨rfl, m2⟩
    have M2 := M1.trans m2
    go_wp2_with fail
    go_ret
    exact ⟨retB (by rw [HQ.out]; rfl), M2⟩

end Go.Proofs.YtefjbnbibmiccaaGreatDoor
