
/- Is it a core AS; is it an AS. -/
import Derived.Test.YtjlglppknemffaaRealm
import Derived.Test.YtjlglppknemffaaSAS
import Derived.Test.YtjlglppknemffaaCTopology
import Derived.Test.YtjlglppknemffaaInR
import Derived.Test.YtjlglppknemffaaRet
namespace Go.Proofs.Ytjlglppknemffaa
open Go.ChangeShapes Go.WideShapes Go.ChangeAt Go.RowKit
set_option linter.unusedVariables false
def crB (zs : List TAS) (n0 : Nat) (r : Int) : Bool := isAsB n0 r && (zs.getD r.toNat default).core
set_option maxRecDepth 100000 in
set_option maxHeartbeats 4000000 in
theorem implIsCr (a0 a1 : Option Addr) (n0 c0 n1 c1 B : Nat) (zs : List TAS) (r : Int) (w : World) (h : HasAS w B a0 n0 zs) (hB : B ≤ w.heap.size) (hn : n0 ≤ 1048576) :
    Calls Try.prog 78 #[.agg #[.slice a0 n0 c0, .slice a1 n1 c1], .int .i64 r] w fun e w' => e = .returned (.bool (crB zs n0 r)) ∧ Mk0 w w' := by
  have M0 := Mk.alloc w (Obj.cells #[Value.slice a0 n0 c0, Value.slice a1 n1 c1] 31)
  have k0 : (w.alloc (Obj.cells #[Value.slice a0 n0 c0, Value.slice a1 n1 c1] 31)).cell? ⟨w.heap.size, 0, none⟩ = some (.slice a0 n0 c0) := by simp [go_sem]
  cases hr : isAsB n0 r
  · have HR := Lib.hid (show crB zs n0 r = false by unfold crB; rw [hr]; rfl)
    have HI := Lib.hid hr
    clear hr
    go_enter Try.func78, Try.ntmps78
    go_wp2_with fail
    refine (implIsAS a0 a1 n0 c0 n1 c1 r _ hn).mono ?_
    rintro e w2 ⟨he, m2⟩
    rw [HI.out] at he
    subst he
    go_wp2_with fail
    go_ret
    exact ⟨retB HR.out.symm, M0.trans m2⟩
  · have hq := of_decide_eq_true (show decide (0 ≤ r ∧ r < (n0 : Int)) = true from hr)
    obtain ⟨q, hqr⟩ : ∃ q : Nat, (q : Int) = r := ⟨r.toNat, by omega⟩
    subst hqr
    have hqn : q < n0 := by omega
    obtain ⟨b, o, y, rfl, hb, hy, d0, d1, d2⟩ := HasAS.at _ _ _ _ _ _ (h.mk M0 hB (.inr (Nat.le_refl _))) hqn
    have HR := Lib.hid (show crB zs n0 (q : Int) = y.core by unfold crB; rw [hr, hy.out]; simp)
    have HI := Lib.hid hr
    have i1 : (0 : Int) ≤ (q : Int) := by omega
    have i2 : (q : Int) < (n0 : Int) := by omega
    clear hr hq d0 d2
    go_enter Try.func78, Try.ntmps78
    go_wp2_with fail
    refine (implIsAS _ a1 n0 c0 n1 c1 (q : Int) _ hn).mono ?_
    rintro e w2 ⟨he, m2⟩
    rw [HI.out] at he
    subst he
    replace k0 := m2.cellAt k0
    replace d1 := m2.cellAt d1
    go_wp2_with fail
    go_ret
    exact ⟨retB HR.out.symm, M0.trans m2⟩

set_option maxRecDepth 100000 in
set_option maxHeartbeats 4000000 in
theorem specRlIn (a0 a1 : Option Addr) (n0 c0 n1 c1 : Nat) (r : Int) (w : World) (hn : n0 ≤ 1048576) (h0 : 0 ≤ r) (h1 : r < (n0 : Int)) :
    Calls Try.prog 75 #[.agg #[.slice a0 n0 c0, .slice a1 n1 c1], .int .i64 r] w fun e w' => e = .returned (.bool true) ∧ Mk0 w w' := by
  have H0 := Lib.hid h0
  have H1 := Lib.hid h1
  go_enter Try.func75, Try.ntmps75
  go_wp2_with fail
  refine (specInYes _ _ _ _ H0.out (by have := H1.out; omega)).mono ?_
  rintro e w' ⟨rfl, rfl⟩
  go_wp2_with fail
  go_ret
  exact ⟨rfl, Mk.alloc _ _⟩

set_option maxRecDepth 100000 in
set_option maxHeartbeats 4000000 in
theorem specRlOut (a0 a1 : Option Addr) (n0 c0 n1 c1 : Nat) (r : Int) (w : World) (hn : n0 ≤ 1048576) (h1 : r < 0 ∨ (n0 : Int) ≤ r) :
    Calls Try.prog 75 #[.agg #[.slice a0 n0 c0, .slice a1 n1 c1], .int .i64 r] w fun e w' => e = .returned (.bool false) ∧ Mk0 w w' := by
  have H1 := Lib.hid h1
  clear h1
  go_enter Try.func75, Try.ntmps75
  go_wp2_with fail
  refine (specInNo _ _ _ _ (by have := H1.out; omega)).mono ?_
  rintro e w' ⟨rfl, rfl⟩
  go_wp2_with fail
  go_ret
  exact ⟨rfl, Mk.alloc _ _⟩

def rgB (n a b : Int) : Bool := decide (a ≤ n ∧ n ≤ b)
theorem implRg (n a b : Int) (w : World) : Calls Try.prog 90 #[.int .i64 n, .int .i64 a, .int .i64 b] w fun e w' => e = .returned (.bool (rgB n a b)) ∧ w = w' := by
  by_cases h : a ≤ n ∧ n ≤ b
  · rw [show rgB n a b = true from decide_eq_true h]; exact implInYes n a b w h.1 h.2
  · rw [show rgB n a b = false from decide_eq_false h]; exact implInNo n a b w (by omega)
end Go.Proofs.Ytjlglppknemffaa
