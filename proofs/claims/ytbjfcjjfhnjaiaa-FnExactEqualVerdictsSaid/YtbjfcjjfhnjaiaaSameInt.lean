
/- Whether two rows of integers are equal: the library, the program and the model. -/
import Derived.Test.YtbjfcjjfhnjaiaaIntS
namespace Go.Proofs.Ytbjfcjjfhnjaiaa
open Go.ChangeShapes Go.WideShapes Go.ChangeAt Go.RowKit
set_option linter.unusedVariables false
def eqB (xs ys : List Int) : Bool := decide (xs = ys)
theorem eqB_yes {xs ys : List Int} {n : Nat} (h : xs.length = n) (h' : ys.length = n) (hp : ∀ j, j < n → xs.getD j 0 = ys.getD j 0) : eqB xs ys = true := by
  have : xs = ys := by
    apply List.ext_getElem (by omega)
    intro i h1 h2
    have := hp i (by omega)
    simpa [List.getD_eq_getElem?_getD, h1, h2] using this
  simp [eqB, this]
theorem eqB_no {xs ys : List Int} (h : xs ≠ ys) : eqB xs ys = false := by simp [eqB, h]
theorem eq_snoc {xs ys : List Int} {k : Nat} (hp : ∀ j, j < k → xs.getD j 0 = ys.getD j 0) (h : xs.getD k 0 = ys.getD k 0) : ∀ j, j < k + 1 → xs.getD j 0 = ys.getD j 0 := by
  intro j hj
  by_cases e : j = k
  · subst e; exact h
  · exact hp j (by omega)
set_option maxRecDepth 100000 in
set_option maxHeartbeats 800000 in
theorem slicesEqualInt (a a' : Option Addr) (n n' c c' B B' : Nat) (xs ys : List Int) (w : World) (h : Has .i64 w B a n xs) (h' : Has .i64 w B' a' n' ys) (hn : n ≤ 1073741824) (hn' : n' ≤ 1073741824) :
    Calls Try.prog 69 #[.slice a n c, .slice a' n' c'] w fun e w' => e = .returned (.bool (eqB xs ys)) ∧ ∃ m, w' = w.drewN m := by
  by_cases hl : n = n'
  · subst hl
    go_enter Try.func69, Try.ntmps69
    go_wp2
    go_loopw [4, 13] (fun r i wr => r = .bool false ∧ ∃ k m : Nat, k ≤ n ∧ i = .int .i64 k ∧ Hid (∀ j, j < k → xs.getD j 0 = ys.getD j 0) ∧ wr = w.drewN m) (fun _ i _ => n - (intOf i).toNat)
    case atStart => exact ⟨rfl, 0, 0, Nat.zero_le _, rfl, fun j hj => absurd hj (by omega), rfl⟩
    case round =>
      obtain ⟨rfl, k, m, hk, rfl, hp, rfl⟩ := hrel
      by_cases hlt : k < n
      · obtain ⟨b, off, z, rfl, hb, hz, hc⟩ := h.at_ hlt
        obtain ⟨b', off', z', rfl, hb', hz', hc'⟩ := h'.at_ hlt
        by_cases hzz : z = z'
        · obtain rfl := hzz
          have HP : Hid (∀ j, j < k + 1 → xs.getD j 0 = ys.getD j 0) := eq_snoc hp.out (hz.out.symm.trans hz'.out)
          go_wp2
          go_quiet (fail)
          go_wp2
          go_roundw
          case rel => exact ⟨rfl, k + 1, _, by omega, by go_num, HP, rfl⟩
          case measure => simp [intOf]; omega
        · have HV : Hid (eqB xs ys = false) := eqB_no (fun e => hzz (by rw [hz.out, hz'.out, e]))
          have hne : (z != z') = true := by simpa using hzz
          go_wp2
          go_quiet (fail)
          go_wp2
          go_ret
          exact ⟨by rw [HV.out]; rfl, _, by rw [World.drewN_drewN]⟩
      · obtain rfl : k = n := by omega
        have HV : Hid (eqB xs ys = true) := eqB_yes h.1 h'.1 hp.out
        go_wp2
        go_ret
        exact ⟨by rw [HV.out]; rfl, m, rfl⟩
  · have HV : Hid (eqB xs ys = false) := eqB_no (fun e => hl (by rw [← h.1, ← h'.1, e]))
    have hne : ((n : Int) != (n' : Int)) = true := by simp; omega
    clear hl
    go_enter Try.func69, Try.ntmps69
    go_wp2
    go_ret
    exact ⟨by rw [HV.out]; rfl, 0, rfl⟩

end Go.Proofs.Ytbjfcjjfhnjaiaa
