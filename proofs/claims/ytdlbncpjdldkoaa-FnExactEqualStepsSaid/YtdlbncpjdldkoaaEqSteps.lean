
/- Rows of Step compared, by both sides. -/
import Derived.Test.YtdlbncpjdldkoaaSStep
import Derived.Test.YtdlbncpjdldkoaaRet
import Derived.Deep.QuietTactic
import Derived.BigQuiet
import Derived.Laws.StructEq
namespace Go.Proofs.Ytdlbncpjdldkoaa
open Go.ChangeShapes Go.WideShapes Go.ChangeAt Go.RowKit
set_option linter.unusedVariables false
def eqStpsame (x y : TStep) : Bool := (x.nd == y.nd) && ((x.ing == y.ing) && ((x.eg == y.eg)))
def eqStpUp (zs zs' : List TStep) : Nat → Bool
  | 0 => true
  | k + 1 => eqStpUp zs zs' k && eqStpsame (zs.getD k default) (zs'.getD k default)
theorem eqStpUp_stop {zs zs' : List TStep} {k : Nat} (h : eqStpsame (zs.getD k default) (zs'.getD k default) = false) : ∀ n, k < n → eqStpUp zs zs' n = false
  | 0, hk => absurd hk (by omega)
  | n + 1, hk => by
    rw [eqStpUp]
    by_cases e : k = n
    · subst e; rw [h]; simp
    · rw [eqStpUp_stop h n (by omega)]; rfl
theorem eqStpUp_go {zs zs' : List TStep} {k : Nat} (h0 : eqStpUp zs zs' k = true) (h : eqStpsame (zs.getD k default) (zs'.getD k default) = true) : eqStpUp zs zs' (k + 1) = true := by
  rw [eqStpUp, h0, h]; rfl
def eqStpB (zs zs' : List TStep) (n n' : Nat) : Bool := if n = n' then eqStpUp zs zs' n else false

set_option maxRecDepth 100000 in
set_option maxHeartbeats 4000000 in
theorem speceqStp (a a' : Option Addr) (n n' c c' B B' : Nat) (zs zs' : List TStep) (w : World) (h : HasStep w B a n zs) (h' : HasStep w B' a' n' zs') (hB : B ≤ w.heap.size) (hB' : B' ≤ w.heap.size) (hn : n ≤ 1048576) (hn' : n' ≤ 1048576) :
    Calls Try.prog 16 #[.slice a n c, .slice a' n' c'] w fun e w' => e = .returned (.bool (eqStpB zs zs' n n')) ∧ Mk0 w w' := by
  by_cases hz : n = n'
  · subst hz
    have HR := Lib.hid (show eqStpB zs zs' n n = eqStpUp zs zs' n from if_pos rfl)
    go_enter Try.func16, Try.ntmps16
    go_wp2_with fail
    go_loopw [4, 5] (fun r i wr => r = .bool false ∧ ∃ k m : Nat, k ≤ n ∧ i = .int .i64 k ∧ Hid (eqStpUp zs zs' k = true) ∧ wr = w.drewN m) (fun _ i _ => n - (intOf i).toNat)
    case atStart => exact ⟨rfl, 0, 0, Nat.zero_le _, rfl, rfl, rfl⟩
    case round =>
      obtain ⟨rfl, k, m, hk, rfl, hS, rfl⟩ := hrel
      by_cases hlt : k < n
      · obtain ⟨b, off, x, rfl, hb, hx, c0, c1, c2⟩ := HasStep.at _ _ _ _ _ _ h hlt
        obtain ⟨b', off', y, rfl, hb', hy, d0, d1, d2⟩ := HasStep.at _ _ _ _ _ _ h' hlt
        cases e0 : (x.nd == y.nd)
        · have HE := Lib.hid (show eqStpB zs zs' n n = false by rw [HR.out]; exact eqStpUp_stop (by rw [← hx.out, ← hy.out]; unfold eqStpsame; rw [e0]; rfl) n hlt)
          go_wp2_with fail
          go_quiet (fail)
          go_wp2_with fail
          go_ret
          exact ⟨retB HE.out.symm, (Mk.drewN _ _).trans (Mk.drewN _ _)⟩
        · cases e1 : (x.ing == y.ing)
          · have HE := Lib.hid (show eqStpB zs zs' n n = false by rw [HR.out]; exact eqStpUp_stop (by rw [← hx.out, ← hy.out]; unfold eqStpsame; rw [e0, e1]; rfl) n hlt)
            go_wp2_with fail
            go_quiet (fail)
            go_wp2_with fail
            go_ret
            exact ⟨retB HE.out.symm, (Mk.drewN _ _).trans (Mk.drewN _ _)⟩
          · cases e2 : (x.eg == y.eg)
            · have HE := Lib.hid (show eqStpB zs zs' n n = false by rw [HR.out]; exact eqStpUp_stop (by rw [← hx.out, ← hy.out]; unfold eqStpsame; rw [e0, e1, e2]; rfl) n hlt)
              go_wp2_with fail
              go_quiet (fail)
              go_wp2_with fail
              go_ret
              exact ⟨retB HE.out.symm, (Mk.drewN _ _).trans (Mk.drewN _ _)⟩
            · have HE := Lib.hid (eqStpUp_go hS.out (by rw [← hx.out, ← hy.out]; unfold eqStpsame; rw [e0, e1, e2]; rfl))
              go_wp2_with fail
              go_quiet (fail)
              go_wp2_with fail
              go_roundw
              case rel => exact ⟨rfl, k + 1, _, by omega, by go_num, HE.out, rfl⟩
              case measure => simp [intOf]; omega
      · obtain rfl : k = n := by omega
        go_wp2_with fail
        go_ret
        exact ⟨retB (by rw [HR.out, hS.out]), Mk.drewN _ _⟩
  · have HR := Lib.hid (show eqStpB zs zs' n n' = false from if_neg hz)
    have hz' : (((n : Int)) != ((n' : Int))) = true := by simp; omega
    go_enter Try.func16, Try.ntmps16
    go_wp2_with fail
    go_ret
    exact ⟨retB HR.out.symm, Mk.refl _ _ _⟩

set_option maxRecDepth 100000 in
set_option maxHeartbeats 4000000 in
theorem impleqStp (a a' : Option Addr) (n n' c c' B B' : Nat) (zs zs' : List TStep) (w : World) (h : HasStep w B a n zs) (h' : HasStep w B' a' n' zs') (hB : B ≤ w.heap.size) (hB' : B' ≤ w.heap.size) (hn : n ≤ 1048576) (hn' : n' ≤ 1048576) :
    Calls Try.prog 54 #[.slice a n c, .slice a' n' c'] w fun e w' => e = .returned (.bool (eqStpB zs zs' n n')) ∧ Mk0 w w' := by
  by_cases hz : n = n'
  · subst hz
    have HR := Lib.hid (show eqStpB zs zs' n n = eqStpUp zs zs' n from if_pos rfl)
    go_enter Try.func54, Try.ntmps54
    go_wp2_with fail
    go_loopw [4, 13] (fun r i wr => r = .bool false ∧ ∃ k m : Nat, k ≤ n ∧ i = .int .i64 k ∧ Hid (eqStpUp zs zs' k = true) ∧ wr = w.drewN m) (fun _ i _ => n - (intOf i).toNat)
    case atStart => exact ⟨rfl, 0, 0, Nat.zero_le _, rfl, rfl, rfl⟩
    case round =>
      obtain ⟨rfl, k, m, hk, rfl, hS, rfl⟩ := hrel
      by_cases hlt : k < n
      · obtain ⟨b, off, x, rfl, hb, hx, c0, c1, c2⟩ := HasStep.at _ _ _ _ _ _ h hlt
        obtain ⟨b', off', y, rfl, hb', hy, d0, d1, d2⟩ := HasStep.at _ _ _ _ _ _ h' hlt
        cases e0 : (x.nd == y.nd)
        · have HE := Lib.hid (show eqStpB zs zs' n n = false by rw [HR.out]; exact eqStpUp_stop (by rw [← hx.out, ← hy.out]; unfold eqStpsame; rw [e0]; rfl) n hlt)
          go_wp2_with fail
          go_quiet (fail)
          go_wp2_with fail
          go_ret
          exact ⟨retB HE.out.symm, (Mk.drewN _ _).trans (Mk.drewN _ _)⟩
        · cases e1 : (x.ing == y.ing)
          · have HE := Lib.hid (show eqStpB zs zs' n n = false by rw [HR.out]; exact eqStpUp_stop (by rw [← hx.out, ← hy.out]; unfold eqStpsame; rw [e0, e1]; rfl) n hlt)
            go_wp2_with fail
            go_quiet (fail)
            go_wp2_with fail
            go_ret
            exact ⟨retB HE.out.symm, (Mk.drewN _ _).trans (Mk.drewN _ _)⟩
          · cases e2 : (x.eg == y.eg)
            · have HE := Lib.hid (show eqStpB zs zs' n n = false by rw [HR.out]; exact eqStpUp_stop (by rw [← hx.out, ← hy.out]; unfold eqStpsame; rw [e0, e1, e2]; rfl) n hlt)
              go_wp2_with fail
              go_quiet (fail)
              go_wp2_with fail
              go_ret
              exact ⟨retB HE.out.symm, (Mk.drewN _ _).trans (Mk.drewN _ _)⟩
            · have HE := Lib.hid (eqStpUp_go hS.out (by rw [← hx.out, ← hy.out]; unfold eqStpsame; rw [e0, e1, e2]; rfl))
              go_wp2_with fail
              go_quiet (fail)
              go_wp2_with fail
              go_roundw
              case rel => exact ⟨rfl, k + 1, _, by omega, by go_num, HE.out, rfl⟩
              case measure => simp [intOf]; omega
      · obtain rfl : k = n := by omega
        go_wp2_with fail
        go_ret
        exact ⟨retB (by rw [HR.out, hS.out]), Mk.drewN _ _⟩
  · have HR := Lib.hid (show eqStpB zs zs' n n' = false from if_neg hz)
    have hz' : (((n : Int)) != ((n' : Int))) = true := by simp; omega
    go_enter Try.func54, Try.ntmps54
    go_wp2_with fail
    go_ret
    exact ⟨retB HR.out.symm, Mk.refl _ _ _⟩

set_option maxRecDepth 100000 in
set_option maxHeartbeats 4000000 in
theorem implLeqStp (a a' : Option Addr) (n n' c c' B B' : Nat) (zs zs' : List TStep) (w : World) (h : HasStep w B a n zs) (h' : HasStep w B' a' n' zs') (hB : B ≤ w.heap.size) (hB' : B' ≤ w.heap.size) (hn : n ≤ 1048576) (hn' : n' ≤ 1048576) :
    Calls Try.prog 18 #[.slice a n c, .slice a' n' c'] w fun e w' => e = .returned (.bool (eqStpB zs zs' n n')) ∧ Mk0 w w' := by
  go_enter Try.func18, Try.ntmps18
  go_wp2_with fail
  refine (impleqStp a a' n n' c c' B B' zs zs' _ h h' hB hB' hn hn').mono ?_
  rintro e w2 ⟨rfl, m2⟩
  go_wp2_with fail
  go_ret
  exact ⟨rfl, m2⟩
end Go.Proofs.Ytdlbncpjdldkoaa
