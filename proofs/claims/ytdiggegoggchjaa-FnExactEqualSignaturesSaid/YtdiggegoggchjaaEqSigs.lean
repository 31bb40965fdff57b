
/- Rows of signatures compared, by both sides. -/
import Derived.Test.YtdiggegoggchjaaSSignature
import Derived.Test.YtdiggegoggchjaaRet
import Derived.Deep.QuietTactic
import Derived.BigQuiet
import Derived.Laws.StructEq
namespace Go.Proofs.Ytdiggegoggchjaa
open Go.ChangeShapes Go.WideShapes Go.ChangeAt Go.RowKit
set_option linter.unusedVariables false
def eqSigssame (x y : TSignature) : Bool := (x.nd == y.nd) && ((x.val == y.val))
def eqSigsUp (zs zs' : List TSignature) : Nat → Bool
  | 0 => true
  | k + 1 => eqSigsUp zs zs' k && eqSigssame (zs.getD k default) (zs'.getD k default)
theorem eqSigsUp_stop {zs zs' : List TSignature} {k : Nat} (h : eqSigssame (zs.getD k default) (zs'.getD k default) = false) : ∀ n, k < n → eqSigsUp zs zs' n = false
  | 0, hk => absurd hk (by omega)
  | n + 1, hk => by
    rw [eqSigsUp]
    by_cases e : k = n
    · subst e; rw [h]; simp
    · rw [eqSigsUp_stop h n (by omega)]; rfl
theorem eqSigsUp_go {zs zs' : List TSignature} {k : Nat} (h0 : eqSigsUp zs zs' k = true) (h : eqSigssame (zs.getD k default) (zs'.getD k default) = true) : eqSigsUp zs zs' (k + 1) = true := by
  rw [eqSigsUp, h0, h]; rfl
def eqSigsB (zs zs' : List TSignature) (n n' : Nat) : Bool := if n = n' then eqSigsUp zs zs' n else false

set_option maxRecDepth 100000 in
set_option maxHeartbeats 4000000 in
theorem speceqSigs (a a' : Option Addr) (n n' c c' B B' : Nat) (zs zs' : List TSignature) (w : World) (h : HasSignature w B a n zs) (h' : HasSignature w B' a' n' zs') (hB : B ≤ w.heap.size) (hB' : B' ≤ w.heap.size) (hn : n ≤ 1048576) (hn' : n' ≤ 1048576) :
    Calls Try.prog 34 #[.slice a n c, .slice a' n' c'] w fun e w' => e = .returned (.bool (eqSigsB zs zs' n n')) ∧ Mk0 w w' := by
  by_cases hz : n = n'
  · subst hz
    have HR := Lib.hid (show eqSigsB zs zs' n n = eqSigsUp zs zs' n from if_pos rfl)
    go_enter Try.func34, Try.ntmps34
    go_wp2_with fail
    go_loopw [4, 5] (fun r i wr => r = .bool false ∧ ∃ k m : Nat, k ≤ n ∧ i = .int .i64 k ∧ Hid (eqSigsUp zs zs' k = true) ∧ wr = w.drewN m) (fun _ i _ => n - (intOf i).toNat)
    case atStart => exact ⟨rfl, 0, 0, Nat.zero_le _, rfl, rfl, rfl⟩
    case round =>
      obtain ⟨rfl, k, m, hk, rfl, hS, rfl⟩ := hrel
      by_cases hlt : k < n
      · obtain ⟨b, off, x, rfl, hb, hx, c0, c1⟩ := HasSignature.at _ _ _ _ _ _ h hlt
        obtain ⟨b', off', y, rfl, hb', hy, d0, d1⟩ := HasSignature.at _ _ _ _ _ _ h' hlt
        cases e0 : (x.nd == y.nd)
        · have HE := Lib.hid (show eqSigsB zs zs' n n = false by rw [HR.out]; exact eqSigsUp_stop (by rw [← hx.out, ← hy.out]; unfold eqSigssame; rw [e0]; rfl) n hlt)
          go_wp2_with fail
          go_quiet (fail)
          go_wp2_with fail
          go_ret
          exact ⟨retB HE.out.symm, (Mk.drewN _ _).trans (Mk.drewN _ _)⟩
        · cases e1 : (x.val == y.val)
          · have HE := Lib.hid (show eqSigsB zs zs' n n = false by rw [HR.out]; exact eqSigsUp_stop (by rw [← hx.out, ← hy.out]; unfold eqSigssame; rw [e0, e1]; rfl) n hlt)
            go_wp2_with fail
            go_quiet (fail)
            go_wp2_with fail
            go_ret
            exact ⟨retB HE.out.symm, (Mk.drewN _ _).trans (Mk.drewN _ _)⟩
          · have HE := Lib.hid (eqSigsUp_go hS.out (by rw [← hx.out, ← hy.out]; unfold eqSigssame; rw [e0, e1]; rfl))
            go_wp2_with fail
            go_quiet (fail)
            go_wp2_with fail
            go_roundw
            case rel => exact ⟨rfl, k + 1, _, by omega, by go_num, HE.out, rfl⟩
            case measure => simp [intOf]; omega
      · obtain rfl : k = n := by omega
        go_wp2_with fail
        go_ret
        exact ⟨retB (by rw [HR.out, hS.out]), Mk.drewN _ _⟩
  · have HR := Lib.hid (show eqSigsB zs zs' n n' = false from if_neg hz)
    have hz' : (((n : Int)) != ((n' : Int))) = true := by simp; omega
    go_enter Try.func34, Try.ntmps34
    go_wp2_with fail
    go_ret
    exact ⟨retB HR.out.symm, Mk.refl _ _ _⟩

set_option maxRecDepth 100000 in
set_option maxHeartbeats 4000000 in
theorem impleqSigs (a a' : Option Addr) (n n' c c' B B' : Nat) (zs zs' : List TSignature) (w : World) (h : HasSignature w B a n zs) (h' : HasSignature w B' a' n' zs') (hB : B ≤ w.heap.size) (hB' : B' ≤ w.heap.size) (hn : n ≤ 1048576) (hn' : n' ≤ 1048576) :
    Calls Try.prog 72 #[.slice a n c, .slice a' n' c'] w fun e w' => e = .returned (.bool (eqSigsB zs zs' n n')) ∧ Mk0 w w' := by
  by_cases hz : n = n'
  · subst hz
    have HR := Lib.hid (show eqSigsB zs zs' n n = eqSigsUp zs zs' n from if_pos rfl)
    go_enter Try.func72, Try.ntmps72
    go_wp2_with fail
    go_loopw [4, 13] (fun r i wr => r = .bool false ∧ ∃ k m : Nat, k ≤ n ∧ i = .int .i64 k ∧ Hid (eqSigsUp zs zs' k = true) ∧ wr = w.drewN m) (fun _ i _ => n - (intOf i).toNat)
    case atStart => exact ⟨rfl, 0, 0, Nat.zero_le _, rfl, rfl, rfl⟩
    case round =>
      obtain ⟨rfl, k, m, hk, rfl, hS, rfl⟩ := hrel
      by_cases hlt : k < n
      · obtain ⟨b, off, x, rfl, hb, hx, c0, c1⟩ := HasSignature.at _ _ _ _ _ _ h hlt
        obtain ⟨b', off', y, rfl, hb', hy, d0, d1⟩ := HasSignature.at _ _ _ _ _ _ h' hlt
        cases e0 : (x.nd == y.nd)
        · have HE := Lib.hid (show eqSigsB zs zs' n n = false by rw [HR.out]; exact eqSigsUp_stop (by rw [← hx.out, ← hy.out]; unfold eqSigssame; rw [e0]; rfl) n hlt)
          go_wp2_with fail
          go_quiet (fail)
          go_wp2_with fail
          go_ret
          exact ⟨retB HE.out.symm, (Mk.drewN _ _).trans (Mk.drewN _ _)⟩
        · cases e1 : (x.val == y.val)
          · have HE := Lib.hid (show eqSigsB zs zs' n n = false by rw [HR.out]; exact eqSigsUp_stop (by rw [← hx.out, ← hy.out]; unfold eqSigssame; rw [e0, e1]; rfl) n hlt)
            go_wp2_with fail
            go_quiet (fail)
            go_wp2_with fail
            go_ret
            exact ⟨retB HE.out.symm, (Mk.drewN _ _).trans (Mk.drewN _ _)⟩
          · have HE := Lib.hid (eqSigsUp_go hS.out (by rw [← hx.out, ← hy.out]; unfold eqSigssame; rw [e0, e1]; rfl))
            go_wp2_with fail
            go_quiet (fail)
            go_wp2_with fail
            go_roundw
            case rel => exact ⟨rfl, k + 1, _, by omega, by go_num, HE.out, rfl⟩
            case measure => simp [intOf]; omega
      · obtain rfl : k = n := by omega
        go_wp2_with fail
        go_ret
        exact ⟨retB (by rw [HR.out, hS.out]), Mk.drewN _ _⟩
  · have HR := Lib.hid (show eqSigsB zs zs' n n' = false from if_neg hz)
    have hz' : (((n : Int)) != ((n' : Int))) = true := by simp; omega
    go_enter Try.func72, Try.ntmps72
    go_wp2_with fail
    go_ret
    exact ⟨retB HR.out.symm, Mk.refl _ _ _⟩

set_option maxRecDepth 100000 in
set_option maxHeartbeats 4000000 in
theorem implEqSigsL (a a' : Option Addr) (n n' c c' B B' : Nat) (zs zs' : List TSignature) (w : World) (h : HasSignature w B a n zs) (h' : HasSignature w B' a' n' zs') (hB : B ≤ w.heap.size) (hB' : B' ≤ w.heap.size) (hn : n ≤ 1048576) (hn' : n' ≤ 1048576) :
    Calls Try.prog 35 #[.slice a n c, .slice a' n' c'] w fun e w' => e = .returned (.bool (eqSigsB zs zs' n n')) ∧ Mk0 w w' := by
  go_enter Try.func35, Try.ntmps35
  go_wp2_with fail
  refine (impleqSigs a a' n n' c c' B B' zs zs' _ h h' hB hB' hn hn').mono ?_
  rintro e w2 ⟨rfl, m2⟩
  go_wp2_with fail
  go_ret
  exact ⟨rfl, m2⟩
end Go.Proofs.Ytdiggegoggchjaa
