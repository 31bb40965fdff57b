
/- Rows of Usage compared, by both sides. -/
import Derived.Test.YtdlbncpjdldkoaaSUsage
import Derived.Test.YtdlbncpjdldkoaaRet
import Derived.Deep.QuietTactic
import Derived.BigQuiet
import Derived.Laws.StructEq
namespace Go.Proofs.Ytdlbncpjdldkoaa
open Go.ChangeShapes Go.WideShapes Go.ChangeAt Go.RowKit
set_option linter.unusedVariables false
def eqUsesame (x y : TUsage) : Bool := (x.id == y.id) && ((x.nd == y.nd) && ((x.ifc == y.ifc) && ((x.cnt == y.cnt))))
def eqUseUp (zs zs' : List TUsage) : Nat → Bool
  | 0 => true
  | k + 1 => eqUseUp zs zs' k && eqUsesame (zs.getD k default) (zs'.getD k default)
theorem eqUseUp_stop {zs zs' : List TUsage} {k : Nat} (h : eqUsesame (zs.getD k default) (zs'.getD k default) = false) : ∀ n, k < n → eqUseUp zs zs' n = false
  | 0, hk => absurd hk (by omega)
  | n + 1, hk => by
    rw [eqUseUp]
    by_cases e : k = n
    · subst e; rw [h]; simp
    · rw [eqUseUp_stop h n (by omega)]; rfl
theorem eqUseUp_go {zs zs' : List TUsage} {k : Nat} (h0 : eqUseUp zs zs' k = true) (h : eqUsesame (zs.getD k default) (zs'.getD k default) = true) : eqUseUp zs zs' (k + 1) = true := by
  rw [eqUseUp, h0, h]; rfl
def eqUseB (zs zs' : List TUsage) (n n' : Nat) : Bool := if n = n' then eqUseUp zs zs' n else false

set_option maxRecDepth 100000 in
set_option maxHeartbeats 4000000 in
theorem impleqUse (a a' : Option Addr) (n n' c c' B B' : Nat) (zs zs' : List TUsage) (w : World) (h : HasUsage w B a n zs) (h' : HasUsage w B' a' n' zs') (hB : B ≤ w.heap.size) (hB' : B' ≤ w.heap.size) (hn : n ≤ 1048576) (hn' : n' ≤ 1048576) :
    Calls Try.prog 75 #[.slice a n c, .slice a' n' c'] w fun e w' => e = .returned (.bool (eqUseB zs zs' n n')) ∧ Mk0 w w' := by
  by_cases hz : n = n'
  · subst hz
    have HR := Lib.hid (show eqUseB zs zs' n n = eqUseUp zs zs' n from if_pos rfl)
    go_enter Try.func75, Try.ntmps75
    go_wp2_with fail
    go_loopw [4, 13] (fun r i wr => r = .bool false ∧ ∃ k m : Nat, k ≤ n ∧ i = .int .i64 k ∧ Hid (eqUseUp zs zs' k = true) ∧ wr = w.drewN m) (fun _ i _ => n - (intOf i).toNat)
    case atStart => exact ⟨rfl, 0, 0, Nat.zero_le _, rfl, rfl, rfl⟩
    case round =>
      obtain ⟨rfl, k, m, hk, rfl, hS, rfl⟩ := hrel
      by_cases hlt : k < n
      · obtain ⟨b, off, x, rfl, hb, hx, c0, c1, c2, c3⟩ := HasUsage.at _ _ _ _ _ _ h hlt
        obtain ⟨b', off', y, rfl, hb', hy, d0, d1, d2, d3⟩ := HasUsage.at _ _ _ _ _ _ h' hlt
        cases e0 : (x.id == y.id)
        · have HE := Lib.hid (show eqUseB zs zs' n n = false by rw [HR.out]; exact eqUseUp_stop (by rw [← hx.out, ← hy.out]; unfold eqUsesame; rw [e0]; rfl) n hlt)
          go_wp2_with fail
          go_quiet (fail)
          go_wp2_with fail
          go_ret
          exact ⟨retB HE.out.symm, (Mk.drewN _ _).trans (Mk.drewN _ _)⟩
        · cases e1 : (x.nd == y.nd)
          · have HE := Lib.hid (show eqUseB zs zs' n n = false by rw [HR.out]; exact eqUseUp_stop (by rw [← hx.out, ← hy.out]; unfold eqUsesame; rw [e0, e1]; rfl) n hlt)
            go_wp2_with fail
            go_quiet (fail)
            go_wp2_with fail
            go_ret
            exact ⟨retB HE.out.symm, (Mk.drewN _ _).trans (Mk.drewN _ _)⟩
          · cases e2 : (x.ifc == y.ifc)
            · have HE := Lib.hid (show eqUseB zs zs' n n = false by rw [HR.out]; exact eqUseUp_stop (by rw [← hx.out, ← hy.out]; unfold eqUsesame; rw [e0, e1, e2]; rfl) n hlt)
              go_wp2_with fail
              go_quiet (fail)
              go_wp2_with fail
              go_ret
              exact ⟨retB HE.out.symm, (Mk.drewN _ _).trans (Mk.drewN _ _)⟩
            · cases e3 : (x.cnt == y.cnt)
              · have HE := Lib.hid (show eqUseB zs zs' n n = false by rw [HR.out]; exact eqUseUp_stop (by rw [← hx.out, ← hy.out]; unfold eqUsesame; rw [e0, e1, e2, e3]; rfl) n hlt)
                go_wp2_with fail
                go_quiet (fail)
                go_wp2_with fail
                go_ret
                exact ⟨retB HE.out.symm, (Mk.drewN _ _).trans (Mk.drewN _ _)⟩
              · have HE := Lib.hid (eqUseUp_go hS.out (by rw [← hx.out, ← hy.out]; unfold eqUsesame; rw [e0, e1, e2, e3]; rfl))
                go_wp2_with fail
                go_quiet (fail)
                go_wp2_with fail
                go_roundw
                case rel => exact ⟨rfl, k + 1, _, by omega, by go_num, HE.out, rfl⟩
                case measure => simp [intOf]; omega
      · obtain rfl : k = n := by omega
        go_wp2_with fail
        go_ret
        exact ⟨retB (by rw [HR.out, hS.out]), Mk.drewN _ _⟩
  · have HR := Lib.hid (show eqUseB zs zs' n n' = false from if_neg hz)
    have hz' : (((n : Int)) != ((n' : Int))) = true := by simp; omega
    go_enter Try.func75, Try.ntmps75
    go_wp2_with fail
    go_ret
    exact ⟨retB HR.out.symm, Mk.refl _ _ _⟩

end Go.Proofs.Ytdlbncpjdldkoaa
