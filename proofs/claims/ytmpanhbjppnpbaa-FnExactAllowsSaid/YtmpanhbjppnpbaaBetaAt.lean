
/- BetaAt and SegmentASes of both sides. -/
import Derived.Test.YtmpanhbjppnpbaaSegL
import Derived.Test.YtmpanhbjppnpbaaChain
import Derived.Test.YtmpanhbjppnpbaaInR
import Derived.Deep.RegionHeld3
namespace Go.Proofs.Ytmpanhbjppnpbaa
open Go.ChangeShapes Go.WideShapes Go.ChangeAt Go.RowKit
set_option linter.unusedVariables false
def betaV (x1 : Int) (zs : List THop) (n : Nat) (i : Int) : Int := if 0 ≤ i ∧ i ≤ n then chN x1 (colN THop.mac zs i.toNat) i.toNat else 0
theorem betaV_in {x1 : Int} {zs : List THop} {n q : Nat} (h : q ≤ n) : betaV x1 zs n (q : Int) = chN x1 (colN THop.mac zs q) q := by
  unfold betaV
  rw [if_pos ⟨by omega, by omega⟩, show ((q : Nat) : Int).toNat = q by omega]
theorem betaV_out {x1 : Int} {zs : List THop} {n : Nat} {i : Int} (h : i < 0 ∨ (n : Int) < i) : betaV x1 zs n i = 0 := if_neg (by omega)
theorem has_cut {f : THop → Int} {w : World} {g n q B : Nat} {zs : List THop} (h : Has .i64 w B (some ⟨g, 0, none⟩) n (colN f zs n)) (hq : q ≤ n) : Has .i64 w B (some ⟨g, 0, none⟩) q (colN f zs q) :=
  ⟨colN_len _ _ _, fun h0 => by
    obtain ⟨b, off, e, hb, hc⟩ := h.2 (by omega)
    refine ⟨b, off, e, hb, fun i hi => ?_⟩
    rw [hc i (by omega), colN_get _ _ _ _ (by omega), colN_get _ _ _ _ hi]⟩

set_option maxRecDepth 100000 in
set_option maxHeartbeats 1600000 in
theorem implSegASes (x0 x1 : Int) (a : Option Addr) (n c B : Nat) (zs : List THop) (w : World) (h : HasHop w B a n zs) (hB : B ≤ w.heap.size) (hn : n ≤ 1048576) :
    Calls Try.prog 89 #[.agg #[.int .i64 x0, .int .i64 x1, .slice a n c]] w (OutR .i64 w (colN THop.nd zs n)) := by
  have hfld : ∀ w', (Instr.field 154 (Value.agg #[Value.slice a n c, Value.int .i64 x1]) 0).run Try.prog w' = .ok (.slice a n c) w' := fun _ => by kernel_rfl
  have M0 := Mk.alloc w (Obj.cells #[Value.int .i64 x0, Value.int .i64 x1, Value.slice a n c] 39)
  go_enter Try.func89, Try.ntmps89
  go_wp2_with fail
  refine (chainOf _ _ _ _ _ _).mono ?_
  rintro e w1 ⟨rfl, m1⟩
  have M1 := M0.trans m1
  go_wp2_with fail
  refine (implASes _ _ _ B zs _ (h.mk M1 hB (.inr (Nat.le_refl _))) (Nat.le_trans hB M1.size) hn).mono ?_
  rintro e w2 ⟨rfl, ho, hb⟩
  go_wp2_with fail
  go_ret
  exact ⟨_, _, _, rfl, (fun h => by cases h), ho.low M1.size, (M1.trans (Mk.of_below hb)).below0⟩
end Go.Proofs.Ytmpanhbjppnpbaa
