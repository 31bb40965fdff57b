
/- BetaAt and SegmentASes of both sides. -/
import Derived.Test.YtefjbnbibmiccaaGreatDoorSegL
import Derived.Test.YtefjbnbibmiccaaGreatDoorChain
import Derived.Test.YtefjbnbibmiccaaGreatDoorInR
import Derived.Deep.RegionHeld3
namespace Go.Proofs.YtefjbnbibmiccaaGreatDoor
open Go.ChangeShapes Go.WideShapes Go.ChangeAt Go.RowKit
set_option linter.unusedVariables false
def betaV (x1 : Int) (zs : List THop) (n : Nat) (i : Int) : Int := if 0 ≤ i ∧ i ≤ n then chN x1 (colN THop.mac zs i.toNat) i.toNat else 0
theorem betaV_in {x1 : Int} {zs : List THop} {n q : Nat} (h : q ≤ n) : betaV x1 zs n (q : Int) = chN x1 (colN THop.mac zs q) q := by
  unfold betaV
  rw [if_pos ⟨by omega, by omega⟩, show ((q : Nat) : Int).toNat = q by omega]
theorem betaV_out {x1 : Int} {zs : List THop} {n : Nat} {i : Int} (h : i < 0 ∨ (n : Int) < i) : betaV x1 zs n i = 0 := if_neg (by omega)
theorem has_cut {f : THop → Int} {w : World} {g n q B : Nat} {zs : List THop} (h : Has .i64 w B (some ⟨g, 0, none⟩) n (colN f zs n)) (hq : q ≤ n) : Has .i64 w B (some ⟨g, 0, none⟩) q (colN f zs q) :=
  ⟨colN_len _ _ _, fun h0 => by
    obtain ⟨b, off, e, hb, hc⟩ := h.2 (by omega)
    refine ⟨b, off, e, hb, fun i hi => ?_⟩
    rw [hc i (by omega), colN_get _ _ _ _ (by omega), colN_get _ _ _ _ hi]⟩

set_option maxRecDepth 100000 in
set_option maxHeartbeats 1600000 in
theorem specBetaAt (x0 x1 : Int) (a : Option Addr) (n c B : Nat) (zs : List THop) (i : Int) (w : World) (h : HasHop w B a n zs) (hB : B ≤ w.heap.size) (hn : n ≤ 1048576) :
    Calls Tryz.prog 54 #[.agg #[.int .i64 x0, .int .i64 x1, .slice a n c], .int .i64 i] w fun e w' => e = .returned (.int .i64 (betaV x1 zs n i)) ∧ Mk0 w w' := by
  have M0 := Mk.alloc w (Obj.cells #[Value.int .i64 x0, Value.int .i64 x1, Value.slice a n c] 39)
  by_cases hi : i < 0 ∨ (n : Int) < i
  · have HR := Lib.hid (betaV_out (x1 := x1) (zs := zs) hi)
    have HI := Lib.hid hi
    clear hi
    go_enter Tryz.func54, Tryz.ntmps54
    go_wp2_with fail
    refine (specInNo _ _ _ _ HI.out).mono ?_
    rintro e w' ⟨rfl, rfl⟩
    go_wp2_with fail
    go_ret
    exact ⟨retI HR.out.symm, M0⟩
  · obtain ⟨q, rfl⟩ : ∃ q : Nat, i = (q : Int) := ⟨i.toNat, by omega⟩
    have hq : q ≤ n := by omega
    clear hi
    have HR := Lib.hid (betaV_in (x1 := x1) (zs := zs) hq)
    go_enter Tryz.func54, Tryz.ntmps54
    go_wp2_with fail
    refine (specInYes _ _ _ _ (by omega) (by omega)).mono ?_
    rintro e w' ⟨rfl, rfl⟩
    go_wp2_with fail
    have C0 : (w.alloc (Obj.cells #[Value.int .i64 x0, Value.int .i64 x1, Value.slice a n c] 39)).cell? ⟨w.heap.size, 0, none⟩ = some (.int .i64 x0) := by simp [go_sem]
    have C1 : (w.alloc (Obj.cells #[Value.int .i64 x0, Value.int .i64 x1, Value.slice a n c] 39)).cell? ⟨w.heap.size, 1, none⟩ = some (.int .i64 x1) := by simp [go_sem]
    have C2 : (w.alloc (Obj.cells #[Value.int .i64 x0, Value.int .i64 x1, Value.slice a n c] 39)).cell? ⟨w.heap.size, 2, none⟩ = some (.slice a n c) := by simp [go_sem]
    have hh : ∀ w', Mk0 (w.alloc (Obj.cells #[Value.int .i64 x0, Value.int .i64 x1, Value.slice a n c] 39)) w' → HasHop w' B a n zs := fun w' m => h.mk (M0.trans m) hB (.inr (Nat.le_refl _))
    have hs : ∀ w', Mk0 (w.alloc (Obj.cells #[Value.int .i64 x0, Value.int .i64 x1, Value.slice a n c] 39)) w' → B ≤ w'.heap.size := fun w' m => Nat.le_trans hB (M0.trans m).size
    have hq2 : q ≤ 2097152 := by omega
    go_region_held3 (fun w' => Mk0 (w.alloc (Obj.cells #[Value.int .i64 x0, Value.int .i64 x1, Value.slice a n c] 39)) w' ∧ w'.cell? ⟨w.heap.size, 0, none⟩ = some (.int .i64 x0) ∧ w'.cell? ⟨w.heap.size, 1, none⟩ = some (.int .i64 x1) ∧ w'.cell? ⟨w.heap.size, 2, none⟩ = some (.slice a n c)) (first | exact ⟨Mk.drew1 _, C0, C1, C2⟩ | assumption | (obtain ⟨s0, s1, s2, s3⟩ := ‹Mk0 (w.alloc (Obj.cells #[Value.int .i64 x0, Value.int .i64 x1, Value.slice a n c] 39)) _ ∧ _›; exact ⟨s0.trans mm, mm.cellAt s1, mm.cellAt s2, mm.cellAt s3⟩)) (first | (go_at_call 84; refine (specSeals _ _ _ _ _ B q zs _ (hh _ (‹Mk0 (w.alloc (Obj.cells #[Value.int .i64 x0, Value.int .i64 x1, Value.slice a n c] 39)) _ ∧ _›).1) (hs _ (‹Mk0 (w.alloc (Obj.cells #[Value.int .i64 x0, Value.int .i64 x1, Value.slice a n c] 39)) _ ∧ _›).1) hn hq).mono ?_; rintro e w2 ⟨A, N, cc, rfl, hcc, ho, hb⟩; obtain rfl : q = N := (colN_len _ _ _).symm.trans ho.1; have mm := Mk.of_below hb) | (go_at_call 83; refine (specChainAdd _ _ _ _ _ (colN THop.mac zs q) _ ho.has hq2).mono ?_; rintro e w3 ⟨rfl, rfl⟩))
    have m6 := (‹Mk0 (w.alloc (Obj.cells #[Value.int .i64 x0, Value.int .i64 x1, Value.slice a n c] 39)) _ ∧ _›).1
    refine ‹∀ (a : Act) (w : World), _ → _› _ _ ?_
    go_wp2_with fail
    go_ret
    exact ⟨retI HR.out.symm, M0.trans m6⟩

set_option maxRecDepth 100000 in
set_option maxHeartbeats 1600000 in
theorem implSegASes (x0 x1 : Int) (a : Option Addr) (n c B : Nat) (zs : List THop) (w : World) (h : HasHop w B a n zs) (hB : B ≤ w.heap.size) (hn : n ≤ 1048576) :
    Calls Tryz.prog 51 #[.agg #[.int .i64 x0, .int .i64 x1, .slice a n c]] w (OutR .i64 w (colN THop.nd zs n)) := by
  have hfld : ∀ w', (Instr.field 72 (Value.agg #[Value.slice a n c, Value.int .i64 x1]) 0).run Tryz.prog w' = .ok (.slice a n c) w' := fun _ => by kernel_rfl
  have M0 := Mk.alloc w (Obj.cells #[Value.int .i64 x0, Value.int .i64 x1, Value.slice a n c] 39)
  go_enter Tryz.func51, Tryz.ntmps51
  go_wp2_with fail
  refine (chainOf _ _ _ _ _ _).mono ?_
  rintro e w1 ⟨rfl, m1⟩
  have M1 := M0.trans m1
  go_wp2_with fail
  refine (implASes _ _ _ B zs _ (h.mk M1 hB (.inr (Nat.le_refl _))) (Nat.le_trans hB M1.size) hn).mono ?_
  rintro e w2 ⟨rfl, ho, hb⟩
  go_wp2_with fail
  go_ret
  exact ⟨_, _, _, rfl, (fun h => by cases h), ho.low M1.size, (M1.trans (Mk.of_below hb)).below0⟩
end Go.Proofs.YtefjbnbibmiccaaGreatDoor
