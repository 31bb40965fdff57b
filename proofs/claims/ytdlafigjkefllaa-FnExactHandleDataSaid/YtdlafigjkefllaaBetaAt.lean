
/- The ends of a segment, by both sides. -/
import Derived.Test.YtdlafigjkefllaaCSegment
import Derived.Test.YtdlafigjkefllaaRow
import Derived.Test.YtdlafigjkefllaaDig
import Derived.Test.YtdlafigjkefllaaRows
import Derived.Handy
import Derived.OwnWalk
import Derived.Deep.QuietTactic
import Derived.BigQuiet
import Derived.Test.YtdlafigjkefllaaInR
import Derived.Deep.RegionHeld3
namespace Go.Proofs.Ytdlafigjkefllaa
open Go.ChangeShapes Go.WideShapes Go.ChangeAt Go.RowKit
set_option linter.unusedVariables false
def segFirst (zs : List THop) (n : Nat) : Int := if n = 0 then -1 else (zs.getD 0 default).nd
def segLast (zs : List THop) (n : Nat) : Int := if n = 0 then -1 else (zs.getD (n - 1) default).nd
def segEnds (zs : List THop) (n : Nat) : Bool := if n = 0 then false else decide ((zs.getD (n - 1) default).eg = 0)

set_option maxRecDepth 100000 in
set_option maxHeartbeats 1600000 in
theorem hopsLast (a : Option Addr) (m c B : Nat) (zs : List THop) (x : THop) (w : World) (h : HasHop w B a (m + 1) zs) (hB : B ≤ w.heap.size) (hn : m + 1 ≤ 1048576) (hx0 : x = zs.getD m default) :
    Calls Try.prog 80 #[.slice a (m + 1) c] w fun e w' => e = .returned (.agg #[.int .i64 x.nd, .int .i64 x.ing, .int .i64 x.eg, .int .i64 x.exp, .int .i64 x.mac]) ∧ Mk0 w w' := by
  have HX := Lib.hid hx0
  clear hx0
  obtain ⟨b, off, y, rfl, hb, hx, d0, d1, d2, d3, d4⟩ := HasHop.at _ _ _ _ _ _ h (Nat.lt_succ_self m)
  obtain rfl : y = x := hx.out.trans HX.out.symm
  have hbw := Nat.lt_of_lt_of_le hb hB
  go_enter Try.func80, Try.ntmps80
  go_wp2
  refine bodyPost_ret (v := .agg #[.int .i64 y.nd, .int .i64 y.ing, .int .i64 y.eg, .int .i64 y.exp, .int .i64 y.mac]) (by simp [results, Try.results80, go_sem]) rfl ⟨rfl, Mk.of_below ?_⟩
  go_grown

set_option maxRecDepth 100000 in
set_option maxHeartbeats 1600000 in
theorem chainOf (x0 x1 : Int) (a : Option Addr) (n c : Nat) (w : World) :
    Calls Try.prog 75 #[.agg #[.int .i64 x0, .int .i64 x1, .slice a n c]] w fun e w' => e = .returned (.agg #[.slice a n c, .int .i64 x1]) ∧ Mk0 w w' := by
  go_enter Try.func75, Try.ntmps75
  go_wp2
  refine bodyPost_ret (v := .agg #[.slice a n c, .int .i64 x1]) (by simp [results, Try.results75, go_sem]) rfl ⟨rfl, Mk.of_below ?_⟩
  go_grown

set_option maxRecDepth 100000 in
set_option maxHeartbeats 1600000 in
theorem specFirst (x0 x1 : Int) (a : Option Addr) (n c B : Nat) (zs : List THop) (w : World) (h : HasHop w B a n zs) (hB : B ≤ w.heap.size) (hn : n ≤ 1048576) :
    Calls Try.prog 82 #[.agg #[.int .i64 x0, .int .i64 x1, .slice a n c]] w fun e w' => e = .returned (.int .i64 (segFirst zs n)) ∧ Mk0 w w' := by
  by_cases hz : n = 0
  · subst hz
    go_enter Try.func82, Try.ntmps82
    go_wp2
    go_ret
    exact ⟨rfl, Mk.alloc _ _⟩
  · obtain ⟨b, off, x, rfl, hb, hx, d0, d1, d2, d3, d4⟩ := HasHop.at _ _ _ _ _ _ h (show 0 < n by omega)
    have hbw := Nat.lt_of_lt_of_le hb hB
    simp only [Nat.zero_mul, Nat.add_zero] at d0 d1 d2 d3 d4
    have HR : segFirst zs n = x.nd := by unfold segFirst; rw [if_neg hz, hx.out]
    have HQ := Lib.hid HR
    clear HR
    go_enter Try.func82, Try.ntmps82
    go_wp2
    go_ret
    exact ⟨retI HQ.out.symm, Mk.alloc _ _⟩

set_option maxRecDepth 100000 in
set_option maxHeartbeats 1600000 in
theorem implFirst (x0 x1 : Int) (a : Option Addr) (n c B : Nat) (zs : List THop) (w : World) (h : HasHop w B a n zs) (hB : B ≤ w.heap.size) (hn : n ≤ 1048576) :
    Calls Try.prog 85 #[.agg #[.int .i64 x0, .int .i64 x1, .slice a n c]] w fun e w' => e = .returned (.int .i64 (segFirst zs n)) ∧ Mk0 w w' := by
  by_cases hz : n = 0
  · subst hz
    go_enter Try.func85, Try.ntmps85
    go_wp2
    go_ret
    exact ⟨rfl, Mk.alloc _ _⟩
  · obtain ⟨b, off, x, rfl, hb, hx, d0, d1, d2, d3, d4⟩ := HasHop.at _ _ _ _ _ _ h (show 0 < n by omega)
    have hbw := Nat.lt_of_lt_of_le hb hB
    simp only [Nat.zero_mul, Nat.add_zero] at d0 d1 d2 d3 d4
    have HR : segFirst zs n = x.nd := by unfold segFirst; rw [if_neg hz, hx.out]
    have HQ := Lib.hid HR
    clear HR
    go_enter Try.func85, Try.ntmps85
    go_wp2
    go_ret
    exact ⟨retI HQ.out.symm, Mk.alloc _ _⟩

set_option maxRecDepth 100000 in
set_option maxHeartbeats 1600000 in
theorem specLast (x0 x1 : Int) (a : Option Addr) (n c B : Nat) (zs : List THop) (w : World) (h : HasHop w B a n zs) (hB : B ≤ w.heap.size) (hn : n ≤ 1048576) :
    Calls Try.prog 46 #[.agg #[.int .i64 x0, .int .i64 x1, .slice a n c]] w fun e w' => e = .returned (.int .i64 (segLast zs n)) ∧ Mk0 w w' := by
  by_cases hz : n = 0
  · subst hz
    go_enter Try.func46, Try.ntmps46
    go_wp2_with fail
    go_ret
    exact ⟨rfl, Mk.alloc _ _⟩
  · obtain ⟨m, rfl⟩ : ∃ m, n = m + 1 := ⟨n - 1, by omega⟩
    obtain ⟨b, off, x, rfl, hb, hx, d0, d1, d2, d3, d4⟩ := HasHop.at _ _ _ _ _ _ h (Nat.lt_succ_self m)
    have hbw := Nat.lt_of_lt_of_le hb hB
    have HR : segLast zs (m + 1) = x.nd := by unfold segLast; rw [if_neg (by omega), hx.out]; rfl
    have HQ := Lib.hid HR
    clear HR
    go_enter Try.func46, Try.ntmps46
    go_wp2_with fail
    go_ret
    exact ⟨retI (by rw [HQ.out]), Mk.alloc _ _⟩

set_option maxRecDepth 100000 in
set_option maxHeartbeats 1600000 in
theorem implLast (x0 x1 : Int) (a : Option Addr) (n c B : Nat) (zs : List THop) (w : World) (h : HasHop w B a n zs) (hB : B ≤ w.heap.size) (hn : n ≤ 1048576) :
    Calls Try.prog 50 #[.agg #[.int .i64 x0, .int .i64 x1, .slice a n c]] w fun e w' => e = .returned (.int .i64 (segLast zs n)) ∧ Mk0 w w' := by
  by_cases hz : n = 0
  · subst hz
    go_enter Try.func50, Try.ntmps50
    go_wp2_with fail
    go_ret
    exact ⟨rfl, Mk.alloc _ _⟩
  · obtain ⟨m, rfl⟩ : ∃ m, n = m + 1 := ⟨n - 1, by omega⟩
    obtain ⟨x, hx⟩ : ∃ x, Hid (x = zs.getD m default) := ⟨_, rfl⟩
    have HR : segLast zs (m + 1) = x.nd := by unfold segLast; rw [if_neg (by omega), hx.out]; rfl
    have HQ := Lib.hid HR
    clear HR
    have hf0 : ∀ w', (Instr.field 115 (Value.agg #[.int .i64 x.nd, .int .i64 x.ing, .int .i64 x.eg, .int .i64 x.exp, .int .i64 x.mac]) 0).run Try.prog w' = .ok (.int .i64 x.nd) w' := fun _ => by kernel_rfl
    have hfld : ∀ w', (Instr.field 120 (Value.agg #[Value.slice a (m + 1) c, Value.int .i64 x1]) 0).run Try.prog w' = .ok (.slice a (m + 1) c) w' := fun _ => by kernel_rfl
    go_enter Try.func50, Try.ntmps50
    go_wp2_with fail
    have M0 := Mk.alloc w (Obj.cells #[Value.int .i64 x0, Value.int .i64 x1, Value.slice a (m + 1) c] 82)
    refine (chainOf _ _ _ _ _ _).mono ?_
    rintro e w1 ⟨rfl, m1⟩
    have M1 := M0.trans m1
    go_wp2_with fail
    refine (hopsLast _ _ _ _ zs x _ (h.mk M1 hB (.inr (Nat.le_refl _))) (Nat.le_trans hB M1.size) hn hx.out).mono ?_
    rintro e w2 ⟨rfl, m2⟩
    have M2 := M1.trans m2
    go_wp2_with fail
    go_ret
    exact ⟨retI (by rw [HQ.out]), M2⟩

end Go.Proofs.Ytdlafigjkefllaa
namespace Go.Proofs.Ytdlafigjkefllaa
open Go.ChangeShapes Go.WideShapes Go.ChangeAt Go.RowKit
set_option linter.unusedVariables false
/-- One field of the first k hops. -/
def colN (f : THop → Int) (zs : List THop) : Nat → List Int
  | 0 => []
  | k + 1 => colN f zs k ++ [f (zs.getD k default)]
theorem colN_len (f : THop → Int) (zs : List THop) : ∀ k, (colN f zs k).length = k
  | 0 => rfl
  | k + 1 => by rw [colN, List.length_append, colN_len f zs k]; rfl
theorem colN_get (f : THop → Int) (zs : List THop) : ∀ k j, j < k → (colN f zs k).getD j 0 = f (zs.getD j default)
  | 0, j, h => absurd h (by omega)
  | k + 1, j, h => by
    have hl := colN_len f zs k
    rw [colN, List.getD_eq_getElem?_getD]
    by_cases hj : j < k
    · rw [List.getElem?_append_left (by omega), ← List.getD_eq_getElem?_getD]
      exact colN_get f zs k j hj
    · obtain rfl : j = k := by omega
      rw [List.getElem?_append_right (by omega), hl, Nat.sub_self]
      rfl

end Go.Proofs.Ytdlafigjkefllaa
namespace Go.Proofs.Ytdlafigjkefllaa
open Go.ChangeShapes Go.WideShapes Go.ChangeAt Go.RowKit
set_option linter.unusedVariables false

end Go.Proofs.Ytdlafigjkefllaa
namespace Go.Proofs.Ytdlafigjkefllaa
open Go.ChangeShapes Go.WideShapes Go.ChangeAt Go.RowKit
set_option linter.unusedVariables false
def chN (b : Int) (zs : List Int) : Nat → Int
  | 0 => b
  | k + 1 => addM (chN b zs k) (zs.getD k 0)
end Go.Proofs.Ytdlafigjkefllaa
namespace Go.Proofs.Ytdlafigjkefllaa
open Go.ChangeShapes Go.WideShapes Go.ChangeAt Go.RowKit
set_option linter.unusedVariables false
def betaV (x1 : Int) (zs : List THop) (n : Nat) (i : Int) : Int := if 0 ≤ i ∧ i ≤ n then chN x1 (colN THop.mac zs i.toNat) i.toNat else 0
theorem betaV_in {x1 : Int} {zs : List THop} {n q : Nat} (h : q ≤ n) : betaV x1 zs n (q : Int) = chN x1 (colN THop.mac zs q) q := by
  unfold betaV
  rw [if_pos ⟨by omega, by omega⟩, show ((q : Nat) : Int).toNat = q by omega]
theorem betaV_out {x1 : Int} {zs : List THop} {n : Nat} {i : Int} (h : i < 0 ∨ (n : Int) < i) : betaV x1 zs n i = 0 := if_neg (by omega)
theorem has_cut {f : THop → Int} {w : World} {g n q B : Nat} {zs : List THop} (h : Has .i64 w B (some ⟨g, 0, none⟩) n (colN f zs n)) (hq : q ≤ n) : Has .i64 w B (some ⟨g, 0, none⟩) q (colN f zs q) :=
  ⟨colN_len _ _ _, fun h0 => by
    obtain ⟨b, off, e, hb, hc⟩ := h.2 (by omega)
    refine ⟨b, off, e, hb, fun i hi => ?_⟩
    rw [hc i (by omega), colN_get _ _ _ _ (by omega), colN_get _ _ _ _ hi]⟩

end Go.Proofs.Ytdlafigjkefllaa
