
/- EncodablePath of both sides. -/
import Derived.Test.YtifhhfndoifbhaaGreatContI
import Derived.Test.YtifhhfndoifbhaaGreatTurn
import Derived.Test.YtifhhfndoifbhaaGreatNPathPart
import Derived.Test.YtifhhfndoifbhaaGreatCPath
namespace Go.Proofs.YtifhhfndoifbhaaGreat
open Go.ChangeShapes Go.WideShapes Go.ChangeAt Go.RowKit
set_option linter.unusedVariables false
def encPartB (x : TPathPart) : Bool := if 1 ≤ x.kind ∧ x.kind ≤ 4 then encB x.ts x.beta x.hops x.hops.length else false
def allTo {α : Type} [Inhabited α] (p : α → Bool) (zs : List α) : Nat → Bool
  | 0 => true
  | k + 1 => allTo p zs k && p (zs.getD k default)
theorem allTo_stop {α : Type} [Inhabited α] {p : α → Bool} {zs : List α} {k : Nat} (h : p (zs.getD k default) = false) : ∀ n, k < n → allTo p zs n = false
  | 0, hk => absurd hk (by omega)
  | n + 1, hk => by
    rw [allTo]
    by_cases e : k = n
    · subst e; rw [h]; simp
    · rw [allTo_stop h n (by omega)]; rfl
theorem allTo_go {α : Type} [Inhabited α] {p : α → Bool} {zs : List α} {k : Nat} (h0 : allTo p zs k = true) (h : p (zs.getD k default) = true) : allTo p zs (k + 1) = true := by
  rw [allTo, h0, h]; rfl
def encPathB (zs : List TPathPart) (n : Nat) : Bool := if n ≤ 3 then allTo encPartB zs n else false

set_option maxRecDepth 100000 in
set_option maxHeartbeats 4000000 in
theorem implPKYes (k : Int) (w : World) (h1 : 1 ≤ k) (h2 : k ≤ 4) : Calls Tryz.prog 84 #[.int .i64 k] w fun e w' => e = .returned (.bool true) ∧ Mk0 w w' := by
  have hk : k = 1 ∨ k = 2 ∨ k = 3 ∨ k = 4 := by omega
  clear h1 h2
  rcases hk with rfl | rfl | rfl | rfl
  · go_enter Tryz.func84, Tryz.ntmps84
    go_wp2_with fail
    refine (kindIs1 _).mono ?_
    rintro e w1 ⟨rfl, m1⟩
    go_wp2_with fail
    go_ret
    exact ⟨rfl, m1⟩
  · go_enter Tryz.func84, Tryz.ntmps84
    go_wp2_with fail
    refine (kindIs2 _).mono ?_
    rintro e w1 ⟨rfl, m1⟩
    go_wp2_with fail
    go_ret
    exact ⟨rfl, m1⟩
  · go_enter Tryz.func84, Tryz.ntmps84
    go_wp2_with fail
    refine (kindIs3 _).mono ?_
    rintro e w1 ⟨rfl, m1⟩
    go_wp2_with fail
    go_ret
    exact ⟨rfl, m1⟩
  · go_enter Tryz.func84, Tryz.ntmps84
    go_wp2_with fail
    refine (kindIs4 _).mono ?_
    rintro e w1 ⟨rfl, m1⟩
    go_wp2_with fail
    go_ret
    exact ⟨rfl, m1⟩

set_option maxRecDepth 100000 in
set_option maxHeartbeats 4000000 in
theorem implPKNo (k : Int) (w : World) (h : k < 1 ∨ 4 < k) : Calls Tryz.prog 84 #[.int .i64 k] w fun e w' => e = .returned (.bool false) ∧ Mk0 w w' := by
  have n1 : (k == 1) = false := by simp; omega
  have n2 : (k == 2) = false := by simp; omega
  have n3 : (k == 3) = false := by simp; omega
  have n4 : (k == 4) = false := by simp; omega
  clear h
  go_enter Tryz.func84, Tryz.ntmps84
  go_wp2_with fail
  refine (kindIs0 _ _ n1 n2 n3 n4).mono ?_
  rintro e w1 ⟨rfl, m1⟩
  go_wp2_with fail
  go_ret
  exact ⟨rfl, m1⟩

end Go.Proofs.YtifhhfndoifbhaaGreat
