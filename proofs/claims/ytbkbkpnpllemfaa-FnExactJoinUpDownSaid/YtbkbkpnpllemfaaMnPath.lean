
/- Path of the call's own; marks by content. -/
import Derived.Test.YtbkbkpnpllemfaaWPathPart
import Derived.Test.YtbkbkpnpllemfaaCPath
namespace Go.Proofs.Ytbkbkpnpllemfaa
open Go.ChangeShapes Go.WideShapes Go.ChangeAt Go.RowKit
set_option linter.unusedVariables false
def OutNPath (R : List TPathPart) (w : World) (e : Ending) (w' : World) : Prop :=
  ∃ A N C, e = .returned (.agg #[.slice A N C]) ∧ ((A = none → C = 0) ∧ (N ≤ C ∧ C ≤ 9223372036854775807)) ∧ OwnN WPathPart w' w.heap.size w'.heap.size A N R ∧ Mk0 w w'
set_option maxRecDepth 100000 in
set_option maxHeartbeats 4000000 in
theorem markPathN (a : Option Addr) (n c lo hi : Nat) (k0 : Int) (zs : List TPathPart) (w : World) (h : OwnN WPathPart w lo hi a n zs) (hB : hi ≤ w.heap.size) (hn : n ≤ 2097152) (ht : sumTo totPathPart zs n ≤ 8388608) (h0 : 0 ≤ k0) (h1 : k0 ≤ 1073741824) :
    Calls Try.prog 24 #[.agg #[.slice a n c], .int .i64 k0] w fun e w' => e = .returned (.int .i64 (k0 + ((sumTo totPathPart zs n : Nat) : Int))) ∧ OwnN WPathPart w' lo hi a n (mkPathPart k0 zs n) ∧ Mk lo hi w w' := by
  have kk0 : (w.alloc (Obj.cells #[Value.slice a n c] 42)).cell? ⟨w.heap.size, 0, none⟩ = some (.slice a n c) := by simp [go_sem]
  have M0 : Mk0 w (w.alloc (Obj.cells #[Value.slice a n c] 42)) := Mk.alloc w _
  have y0 := M0.size
  have h2 := h.mk M0 hB (.inr (.inr (Nat.le_refl _)))
  go_enter Try.func24, Try.ntmps24
  go_wp2_with fail
  refine (markPathPartW _ _ _ lo hi _ zs _ h2 hn ht h0 (by omega) (by omega)).mono ?_
  rintro e w1 ⟨rfl, o1, m1⟩
  go_wp2_with fail
  go_ret
  exact ⟨rfl, o1, (M0.wide (.inl (Nat.le_refl _))).trans m1⟩

set_option maxRecDepth 100000 in
set_option maxHeartbeats 4000000 in
theorem heldPathN (a : Option Addr) (n c B : Nat) (k0 : Int) (zs : List TPathPart) (w : World) (h : HasPathPart w B a n (mkPathPart k0 zs n)) (hB : B ≤ w.heap.size) (hn : n ≤ 2097152) (ht : sumTo totPathPart zs n ≤ 8388608) (h0 : 0 ≤ k0) (h1 : k0 ≤ 1073741824) :
    Calls Try.prog 25 #[.agg #[.slice a n c], .int .i64 k0] w fun e w' => e = .returned (.int .i64 (k0 + ((sumTo totPathPart zs n : Nat) : Int))) ∧ Mk0 w w' := by
  have kk0 : (w.alloc (Obj.cells #[Value.slice a n c] 42)).cell? ⟨w.heap.size, 0, none⟩ = some (.slice a n c) := by simp [go_sem]
  have M0 : Mk0 w (w.alloc (Obj.cells #[Value.slice a n c] 42)) := Mk.alloc w _
  have y0 := M0.size
  have h2 := h.mk M0 hB (.inr (Nat.le_refl _))
  go_enter Try.func25, Try.ntmps25
  go_wp2_with fail
  refine (heldPathPartW _ _ _ _ _ zs _ h2 hn ht h0 (by omega)).mono ?_
  rintro e w' ⟨rfl, rfl⟩
  go_wp2_with fail
  go_ret
  exact ⟨rfl, M0⟩

theorem totPathPart_sz (zs : List TPathPart) (n : Nat) : sumTo totPathPart zs n ≤ 5 * szPathPart zs n := by
  have : ∀ k, sumTo totPathPart zs k ≤ 5 * (k + sumTo sePathPart zs k) := by
    intro k
    induction k with
    | zero => simp [sumTo]
    | succ k ih => rw [sumTo, sumTo]; have : totPathPart (zs.getD k default) ≤ 5 + 5 * sePathPart (zs.getD k default) := by unfold totPathPart sePathPart; omega
                   omega
  exact this n
end Go.Proofs.Ytbkbkpnpllemfaa
