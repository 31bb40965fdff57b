
/- EncodeRevocation of both sides. -/
import Derived.Test.YtdlbncpjdldkoaaNote
import Derived.Test.YtdlbncpjdldkoaaEnc
import Derived.Test.YtdlbncpjdldkoaaHop
namespace Go.Proofs.Ytdlbncpjdldkoaa
open Go.ChangeShapes Go.WideShapes Go.ChangeAt Go.RowKit
set_option linter.unusedVariables false
def revBytes (a i u : Int) : List Int := if revOk a i u then encN [a, i, u] 3 else []
theorem revBytes_len (a i u : Int) : (revBytes a i u).length ≤ 18 := by
  unfold revBytes
  split
  · exact encN_len [a, i, u] 3
  · simp
theorem OutB.mk0 {w w1 : World} {R : List Int} {e : Ending} {w' : World} (m : Mk0 w w1) (h : OutB w1 R e w') : OutB w R e w' := by
  obtain ⟨v, rfl, ho, hb⟩ := h
  exact ⟨v, rfl, own_low ho m.size, m.below0.trans (hb.mono m.size)⟩
set_option maxRecDepth 100000 in
set_option maxHeartbeats 1600000 in
theorem specEncRev (a i u : Int) (w : World) : Calls Try.prog 25 #[.agg #[.int .i64 a, .int .i64 i, .int .i64 u]] w (OutB w (revBytes a i u)) := by
  cases hv : revOk a i u with
  | false =>
    have hr : revBytes a i u = [] := by simp [revBytes, hv]
    rw [hr]
    have V : ∀ W, Calls Try.prog 22 #[.agg #[.int .i64 a, .int .i64 i, .int .i64 u]] W fun en w' => en = .returned (.bool false) ∧ Mk0 W w' := fun W => ((specVRev a i u W).mono fun e w' h => by rw [hv] at h; exact h)
    clear hr hv
    go_enter Try.func25, Try.ntmps25
    go_wp2_with fail
    refine (V _).mono ?_
    rintro e w1 ⟨rfl, m1⟩
    go_wp2_with fail
    go_ret
    exact OutB.mk0 ((Mk.alloc w _).trans m1) (OutB.of (R := []) (own_empty w1 5) ((Below.refl _ _).alloc (Nat.le_refl _) _))
  | true =>
    have hr : revBytes a i u = encN [a, i, u] 3 := by simp [revBytes, hv]
    rw [hr]
    have V : ∀ W, Calls Try.prog 22 #[.agg #[.int .i64 a, .int .i64 i, .int .i64 u]] W fun en w' => en = .returned (.bool true) ∧ Mk0 W w' := fun W => ((specVRev a i u W).mono fun e w' h => by rw [hv] at h; exact h)
    clear hr hv
    have c0 : (w.alloc (Obj.cells #[Value.int .i64 a, Value.int .i64 i, Value.int .i64 u] 33)).cell? ⟨w.heap.size, 0, none⟩ = some (.int .i64 a) := by simp
    have c1 : (w.alloc (Obj.cells #[Value.int .i64 a, Value.int .i64 i, Value.int .i64 u] 33)).cell? ⟨w.heap.size, 1, none⟩ = some (.int .i64 i) := by simp
    have c2 : (w.alloc (Obj.cells #[Value.int .i64 a, Value.int .i64 i, Value.int .i64 u] 33)).cell? ⟨w.heap.size, 2, none⟩ = some (.int .i64 u) := by simp
    go_enter Try.func25, Try.ntmps25
    go_wp2_with fail
    refine (V _).mono ?_
    rintro e w1 ⟨rfl, m1⟩
    replace c0 := m1.cellAt c0
    replace c1 := m1.cellAt c1
    replace c2 := m1.cellAt c2
    have hh := has_lit w1 3 [a, i, u] 3 rfl
    go_wp2_with fail
    refine (specEncodeInts (some ⟨w1.heap.size, 0, none⟩) 3 3 [a, i, u] _ hh (by omega)).mono ?_
    rintro e w2 ho
    obtain ⟨v, rfl, ho, hb⟩ := OutB.mk0 (((Mk.alloc w _).trans m1).trans (Mk.alloc w1 _)) ho
    go_wp2_with fail
    go_ret
    exact ⟨v, rfl, ho, hb⟩

set_option maxRecDepth 100000 in
set_option maxHeartbeats 1600000 in
theorem implEncRev (a i u : Int) (w : World) : Calls Try.prog 26 #[.agg #[.int .i64 a, .int .i64 i, .int .i64 u]] w (OutB w (revBytes a i u)) := by
  cases hv : revOk a i u with
  | false =>
    have hr : revBytes a i u = [] := by simp [revBytes, hv]
    rw [hr]
    have V : ∀ W, Calls Try.prog 24 #[.agg #[.int .i64 a, .int .i64 i, .int .i64 u]] W fun en w' => en = .returned (.bool false) ∧ Mk0 W w' := fun W => ((implVRev a i u W).mono fun e w' h => by rw [hv] at h; exact h)
    clear hr hv
    go_enter Try.func26, Try.ntmps26
    go_wp2_with fail
    refine (V _).mono ?_
    rintro e w1 ⟨rfl, m1⟩
    go_wp2_with fail
    go_ret
    exact OutB.mk0 ((Mk.alloc w _).trans m1) (OutB.of (R := []) (own_empty w1 5) ((Below.refl _ _).alloc (Nat.le_refl _) _))
  | true =>
    have hr : revBytes a i u = encN [a, i, u] 3 := by simp [revBytes, hv]
    rw [hr]
    have V : ∀ W, Calls Try.prog 24 #[.agg #[.int .i64 a, .int .i64 i, .int .i64 u]] W fun en w' => en = .returned (.bool true) ∧ Mk0 W w' := fun W => ((implVRev a i u W).mono fun e w' h => by rw [hv] at h; exact h)
    clear hr hv
    have c0 : (w.alloc (Obj.cells #[Value.int .i64 a, Value.int .i64 i, Value.int .i64 u] 33)).cell? ⟨w.heap.size, 0, none⟩ = some (.int .i64 a) := by simp
    have c1 : (w.alloc (Obj.cells #[Value.int .i64 a, Value.int .i64 i, Value.int .i64 u] 33)).cell? ⟨w.heap.size, 1, none⟩ = some (.int .i64 i) := by simp
    have c2 : (w.alloc (Obj.cells #[Value.int .i64 a, Value.int .i64 i, Value.int .i64 u] 33)).cell? ⟨w.heap.size, 2, none⟩ = some (.int .i64 u) := by simp
    go_enter Try.func26, Try.ntmps26
    go_wp2_with fail
    refine (V _).mono ?_
    rintro e w1 ⟨rfl, m1⟩
    replace c0 := m1.cellAt c0
    replace c1 := m1.cellAt c1
    replace c2 := m1.cellAt c2
    have hh := has_lit w1 3 [a, i, u] 3 rfl
    go_wp2_with fail
    refine (implEncodeInts (some ⟨w1.heap.size, 0, none⟩) 3 3 [a, i, u] _ hh (by omega)).mono ?_
    rintro e w2 ho
    obtain ⟨v, rfl, ho, hb⟩ := OutB.mk0 (((Mk.alloc w _).trans m1).trans (Mk.alloc w1 _)) ho
    go_wp2_with fail
    go_ret
    exact ⟨v, rfl, ho, hb⟩

end Go.Proofs.Ytdlbncpjdldkoaa
