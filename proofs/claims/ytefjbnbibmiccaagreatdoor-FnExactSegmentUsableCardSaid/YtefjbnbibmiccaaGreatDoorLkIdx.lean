
/- LinkIndex of both sides: the first link that uses an interface. -/
import Derived.Test.YtefjbnbibmiccaaGreatDoorCTopology
import Derived.Test.YtefjbnbibmiccaaGreatDoorRet
import Derived.Laws.StructEq
namespace Go.Proofs.YtefjbnbibmiccaaGreatDoor
open Go.ChangeShapes Go.WideShapes Go.ChangeAt Go.RowKit
set_option linter.unusedVariables false
def TLink.uses (x : TLink) (r d : Int) : Bool := (decide (x.a = r) && decide (x.ai = d)) || (decide (x.b = r) && decide (x.bi = d))
/-- The first index from k on, within m, at which p holds; -1 if there is none. -/
def firstIx (p : Nat → Bool) : Nat → Nat → Int
  | _, 0 => -1
  | k, m + 1 => if p k then (k : Int) else firstIx p (k + 1) m
def lkIx (zs : List TLink) (r d : Int) (n : Nat) : Int := firstIx (fun k => (zs.getD k default).uses r d) 0 n

set_option maxRecDepth 100000 in
set_option maxHeartbeats 1600000 in
theorem specEnds (x : TLink) (r d : Int) (w : World) :
    Calls Tryz.prog 94 #[.agg #[.int .i64 x.a, .int .i64 x.ai, .int .i64 x.b, .int .i64 x.bi, .int .i64 x.kind], .int .i64 r, .int .i64 d] w fun e w' => e = .returned (.bool (x.uses r d)) ∧ Mk0 w w' := by
  by_cases h1 : x.a = r <;> by_cases h2 : x.ai = d <;> by_cases h3 : x.b = r <;> by_cases h4 : x.bi = d
  all_goals (
    have hu : x.uses r d = ((decide (x.a = r) && decide (x.ai = d)) || (decide (x.b = r) && decide (x.bi = d))) := rfl
    simp only [h1, h2, h3, h4, decide_true, decide_false, Bool.true_and, Bool.false_and, Bool.and_false, Bool.or_false, Bool.or_true] at hu
    have HU := Lib.hid hu
    clear hu
    go_enter Tryz.func94, Tryz.ntmps94
    go_wp2
    go_ret
    exact ⟨by rw [HU.out]; first | rfl | (simp_all; done), Mk.of_below (by go_grown)⟩)

theorem firstIx_hit {p : Nat → Bool} {k n : Nat} (hk : k < n) (hp : p k = true) : firstIx p k (n - k) = (k : Int) := by
  obtain ⟨m, hm⟩ : ∃ m, n - k = m + 1 := ⟨n - k - 1, by omega⟩
  rw [hm, firstIx, if_pos hp]
theorem firstIx_miss {p : Nat → Bool} {k n : Nat} (hk : k < n) (hp : p k = false) : firstIx p k (n - k) = firstIx p (k + 1) (n - (k + 1)) := by
  obtain ⟨m, hm⟩ : ∃ m, n - k = m + 1 := ⟨n - k - 1, by omega⟩
  rw [hm, firstIx, if_neg (by simp [hp]), show n - (k + 1) = m by omega]
theorem firstIx_end (p : Nat → Bool) (k : Nat) : firstIx p k (k - k) = -1 := by rw [Nat.sub_self, firstIx]
theorem firstIx_range (p : Nat → Bool) : ∀ m k : Nat, (firstIx p k m = -1 ∨ ∃ q : Nat, firstIx p k m = (q : Int) ∧ k ≤ q ∧ q < k + m)
  | 0, _ => .inl rfl
  | m + 1, k => by
    rw [firstIx]
    by_cases hp : p k = true
    · rw [if_pos hp]
      exact .inr ⟨k, rfl, by omega, by omega⟩
    · rw [if_neg hp]
      rcases firstIx_range p m (k + 1) with h | ⟨q, h1, h2, h3⟩
      · exact .inl h
      · exact .inr ⟨q, h1, by omega, by omega⟩

set_option maxRecDepth 100000 in
set_option maxHeartbeats 1600000 in
theorem specLinkIx (a0 a1 : Option Addr) (n0 c0 n1 c1 B : Nat) (zs : List TLink) (r d : Int) (w : World) (h : HasLink w B a1 n1 zs) (hB : B ≤ w.heap.size) (hn : n1 ≤ 1048576) :
    Calls Tryz.prog 76 #[.agg #[.slice a0 n0 c0, .slice a1 n1 c1], .int .i64 r, .int .i64 d] w fun e w' => e = .returned (.int .i64 (lkIx zs r d n1)) ∧ Mk0 w w' := by
  go_enter Tryz.func76, Tryz.ntmps76
  go_wp2_with fail
  have M0 := Mk.alloc w (Obj.cells #[Value.slice a0 n0 c0, Value.slice a1 n1 c1] 35)
  go_loopw [6, 7] (fun q i wr => q = .int .i64 0 ∧ ∃ k : Nat, k ≤ n1 ∧ i = .int .i64 k ∧ Hid (lkIx zs r d n1 = firstIx (fun k => (zs.getD k default).uses r d) k (n1 - k)) ∧ Mk0 (w.alloc (Obj.cells #[Value.slice a0 n0 c0, Value.slice a1 n1 c1] 35)) wr) (fun _ i _ => n1 - (intOf i).toNat)
  case atStart => exact ⟨rfl, 0, Nat.zero_le _, rfl, rfl, Mk.refl _ _ _⟩
  case round =>
    obtain ⟨rfl, k, hk, rfl, hR, hM⟩ := hrel
    obtain ⟨q1, r1⟩ := hM.kept
    have hM' := M0.trans hM
    by_cases hlt : k < n1
    · obtain ⟨b, off, x, rfl, hb, hx, d0, d1, d2, d3, d4⟩ := HasLink.at _ _ _ _ _ _ (h.mk hM' hB (.inr (Nat.le_refl _))) hlt
      go_wp2_with fail
      refine (specEnds x r d _).mono ?_
      rintro e w2 ⟨rfl, m2⟩
      clear d0 d1 d2 d3 d4 q1 r1
      cases hu : x.uses r d
      · go_wp2_with fail
        go_roundw
        case rel => exact ⟨rfl, k + 1, by omega, by go_num, hR.out.trans (firstIx_miss hlt (by rw [← hx.out]; exact hu)), hM.trans m2⟩
        case measure => simp [intOf]; omega
      · go_wp2_with fail
        go_ret
        exact ⟨retI (hR.out.trans (firstIx_hit hlt (by rw [← hx.out]; exact hu))).symm, hM'.trans m2⟩
    · obtain rfl : k = n1 := by omega
      go_wp2_with fail
      go_ret
      exact ⟨retI (hR.out.trans (firstIx_end _ _)).symm, hM'⟩

end Go.Proofs.YtefjbnbibmiccaaGreatDoor
