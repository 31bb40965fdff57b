
/- Rows of hops compared, by both sides. -/
import Derived.Test.YtdhdkhnefnbdgaaGreatDoorSHop
import Derived.Test.YtdhdkhnefnbdgaaGreatDoorRow
import Derived.Deep.QuietTactic
import Derived.BigQuiet
import Derived.Laws.StructEq
namespace Go.Proofs.YtdhdkhnefnbdgaaGreatDoor
open Go.ChangeShapes Go.WideShapes Go.ChangeAt Go.RowKit
set_option linter.unusedVariables false
def hsame (x y : THop) : Bool := (x.nd == y.nd) && ((x.ing == y.ing) && ((x.eg == y.eg) && ((x.exp == y.exp) && (x.mac == y.mac))))
def sameUp (zs zs' : List THop) : Nat → Bool
  | 0 => true
  | k + 1 => sameUp zs zs' k && hsame (zs.getD k default) (zs'.getD k default)
theorem sameUp_stop {zs zs' : List THop} {k : Nat} (h : hsame (zs.getD k default) (zs'.getD k default) = false) : ∀ n, k < n → sameUp zs zs' n = false
  | 0, hk => absurd hk (by omega)
  | n + 1, hk => by
    rw [sameUp]
    by_cases e : k = n
    · subst e; rw [h]; simp
    · rw [sameUp_stop h n (by omega)]; rfl
theorem sameUp_go {zs zs' : List THop} {k : Nat} (h0 : sameUp zs zs' k = true) (h : hsame (zs.getD k default) (zs'.getD k default) = true) : sameUp zs zs' (k + 1) = true := by
  rw [sameUp, h0, h]; rfl
def eqHopsB (zs zs' : List THop) (n n' : Nat) : Bool := if n = n' then sameUp zs zs' n else false

set_option maxRecDepth 100000 in
set_option maxHeartbeats 4000000 in
theorem specSameHops (a a' : Option Addr) (n n' c c' B B' : Nat) (zs zs' : List THop) (w : World) (h : HasHop w B a n zs) (h' : HasHop w B' a' n' zs') (hB : B ≤ w.heap.size) (hB' : B' ≤ w.heap.size) (hn : n ≤ 1048576) (hn' : n' ≤ 1048576) :
    Calls Tryz.prog 101 #[.slice a n c, .slice a' n' c'] w fun e w' => e = .returned (.bool (eqHopsB zs zs' n n')) ∧ ∃ m, w' = w.drewN m := by
  by_cases hz : n = n'
  · subst hz
    have HR := Lib.hid (show eqHopsB zs zs' n n = sameUp zs zs' n from if_pos rfl)
    go_enter Tryz.func101, Tryz.ntmps101
    go_wp2_with fail
    go_loopw [4, 5] (fun r i wr => r = .bool false ∧ ∃ k m : Nat, k ≤ n ∧ i = .int .i64 k ∧ Hid (sameUp zs zs' k = true) ∧ wr = w.drewN m) (fun _ i _ => n - (intOf i).toNat)
    case atStart => exact ⟨rfl, 0, 0, Nat.zero_le _, rfl, rfl, rfl⟩
    case round =>
      obtain ⟨rfl, k, m, hk, rfl, hS, rfl⟩ := hrel
      by_cases hlt : k < n
      · obtain ⟨b, off, x, rfl, hb, hx, c0, c1, c2, c3, c4⟩ := HasHop.at _ _ _ _ _ _ h hlt
        obtain ⟨b', off', y, rfl, hb', hy, d0, d1, d2, d3, d4⟩ := HasHop.at _ _ _ _ _ _ h' hlt
        cases e0 : (x.nd == y.nd)
        · have HE := Lib.hid (show eqHopsB zs zs' n n = false by rw [HR.out]; exact sameUp_stop (by rw [← hx.out, ← hy.out]; unfold hsame; rw [e0]; rfl) n hlt)
          go_wp2_with fail
          go_quiet (fail)
          go_wp2_with fail
          go_ret
          exact ⟨retB HE.out.symm, _, by first | rfl | exact World.drewN_drewN _ _ _⟩
        · cases e1 : (x.ing == y.ing)
          · have HE := Lib.hid (show eqHopsB zs zs' n n = false by rw [HR.out]; exact sameUp_stop (by rw [← hx.out, ← hy.out]; unfold hsame; rw [e0, e1]; rfl) n hlt)
            go_wp2_with fail
            go_quiet (fail)
            go_wp2_with fail
            go_ret
            exact ⟨retB HE.out.symm, _, by first | rfl | exact World.drewN_drewN _ _ _⟩
          · cases e2 : (x.eg == y.eg)
            · have HE := Lib.hid (show eqHopsB zs zs' n n = false by rw [HR.out]; exact sameUp_stop (by rw [← hx.out, ← hy.out]; unfold hsame; rw [e0, e1, e2]; rfl) n hlt)
              go_wp2_with fail
              go_quiet (fail)
              go_wp2_with fail
              go_ret
              exact ⟨retB HE.out.symm, _, by first | rfl | exact World.drewN_drewN _ _ _⟩
            · cases e3 : (x.exp == y.exp)
              · have HE := Lib.hid (show eqHopsB zs zs' n n = false by rw [HR.out]; exact sameUp_stop (by rw [← hx.out, ← hy.out]; unfold hsame; rw [e0, e1, e2, e3]; rfl) n hlt)
                go_wp2_with fail
                go_quiet (fail)
                go_wp2_with fail
                go_ret
                exact ⟨retB HE.out.symm, _, by first | rfl | exact World.drewN_drewN _ _ _⟩
              · cases e4 : (x.mac == y.mac)
                · have HE := Lib.hid (show eqHopsB zs zs' n n = false by rw [HR.out]; exact sameUp_stop (by rw [← hx.out, ← hy.out]; unfold hsame; rw [e0, e1, e2, e3, e4]; rfl) n hlt)
                  go_wp2_with fail
                  go_quiet (fail)
                  go_wp2_with fail
                  go_ret
                  exact ⟨retB HE.out.symm, _, by first | rfl | exact World.drewN_drewN _ _ _⟩
                · have HE := Lib.hid (sameUp_go hS.out (by rw [← hx.out, ← hy.out]; unfold hsame; rw [e0, e1, e2, e3, e4]; rfl))
                  go_wp2_with fail
                  go_quiet (fail)
                  go_wp2_with fail
                  go_roundw
                  case rel => exact ⟨rfl, k + 1, _, by omega, by go_num, HE.out, rfl⟩
                  case measure => simp [intOf]; omega
      · obtain rfl : k = n := by omega
        go_wp2_with fail
        go_ret
        exact ⟨retB (by rw [HR.out, hS.out]), m, rfl⟩
  · have HR := Lib.hid (show eqHopsB zs zs' n n' = false from if_neg hz)
    have hz' : (((n : Int)) != ((n' : Int))) = true := by simp; omega
    go_enter Tryz.func101, Tryz.ntmps101
    go_wp2_with fail
    go_ret
    exact ⟨retB HR.out.symm, 0, rfl⟩

set_option maxRecDepth 100000 in
set_option maxHeartbeats 4000000 in
theorem implSameHops (a a' : Option Addr) (n n' c c' B B' : Nat) (zs zs' : List THop) (w : World) (h : HasHop w B a n zs) (h' : HasHop w B' a' n' zs') (hB : B ≤ w.heap.size) (hB' : B' ≤ w.heap.size) (hn : n ≤ 1048576) (hn' : n' ≤ 1048576) :
    Calls Tryz.prog 102 #[.slice a n c, .slice a' n' c'] w fun e w' => e = .returned (.bool (eqHopsB zs zs' n n')) ∧ ∃ m, w' = w.drewN m := by
  by_cases hz : n = n'
  · subst hz
    have HR := Lib.hid (show eqHopsB zs zs' n n = sameUp zs zs' n from if_pos rfl)
    go_enter Tryz.func102, Tryz.ntmps102
    go_wp2_with fail
    go_loopw [4, 13] (fun r i wr => r = .bool false ∧ ∃ k m : Nat, k ≤ n ∧ i = .int .i64 k ∧ Hid (sameUp zs zs' k = true) ∧ wr = w.drewN m) (fun _ i _ => n - (intOf i).toNat)
    case atStart => exact ⟨rfl, 0, 0, Nat.zero_le _, rfl, rfl, rfl⟩
    case round =>
      obtain ⟨rfl, k, m, hk, rfl, hS, rfl⟩ := hrel
      by_cases hlt : k < n
      · obtain ⟨b, off, x, rfl, hb, hx, c0, c1, c2, c3, c4⟩ := HasHop.at _ _ _ _ _ _ h hlt
        obtain ⟨b', off', y, rfl, hb', hy, d0, d1, d2, d3, d4⟩ := HasHop.at _ _ _ _ _ _ h' hlt
        cases e0 : (x.nd == y.nd)
        · have HE := Lib.hid (show eqHopsB zs zs' n n = false by rw [HR.out]; exact sameUp_stop (by rw [← hx.out, ← hy.out]; unfold hsame; rw [e0]; rfl) n hlt)
          go_wp2_with fail
          go_quiet (fail)
          go_wp2_with fail
          go_ret
          exact ⟨retB HE.out.symm, _, by first | rfl | exact World.drewN_drewN _ _ _⟩
        · cases e1 : (x.ing == y.ing)
          · have HE := Lib.hid (show eqHopsB zs zs' n n = false by rw [HR.out]; exact sameUp_stop (by rw [← hx.out, ← hy.out]; unfold hsame; rw [e0, e1]; rfl) n hlt)
            go_wp2_with fail
            go_quiet (fail)
            go_wp2_with fail
            go_ret
            exact ⟨retB HE.out.symm, _, by first | rfl | exact World.drewN_drewN _ _ _⟩
          · cases e2 : (x.eg == y.eg)
            · have HE := Lib.hid (show eqHopsB zs zs' n n = false by rw [HR.out]; exact sameUp_stop (by rw [← hx.out, ← hy.out]; unfold hsame; rw [e0, e1, e2]; rfl) n hlt)
              go_wp2_with fail
              go_quiet (fail)
              go_wp2_with fail
              go_ret
              exact ⟨retB HE.out.symm, _, by first | rfl | exact World.drewN_drewN _ _ _⟩
            · cases e3 : (x.exp == y.exp)
              · have HE := Lib.hid (show eqHopsB zs zs' n n = false by rw [HR.out]; exact sameUp_stop (by rw [← hx.out, ← hy.out]; unfold hsame; rw [e0, e1, e2, e3]; rfl) n hlt)
                go_wp2_with fail
                go_quiet (fail)
                go_wp2_with fail
                go_ret
                exact ⟨retB HE.out.symm, _, by first | rfl | exact World.drewN_drewN _ _ _⟩
              · cases e4 : (x.mac == y.mac)
                · have HE := Lib.hid (show eqHopsB zs zs' n n = false by rw [HR.out]; exact sameUp_stop (by rw [← hx.out, ← hy.out]; unfold hsame; rw [e0, e1, e2, e3, e4]; rfl) n hlt)
                  go_wp2_with fail
                  go_quiet (fail)
                  go_wp2_with fail
                  go_ret
                  exact ⟨retB HE.out.symm, _, by first | rfl | exact World.drewN_drewN _ _ _⟩
                · have HE := Lib.hid (sameUp_go hS.out (by rw [← hx.out, ← hy.out]; unfold hsame; rw [e0, e1, e2, e3, e4]; rfl))
                  go_wp2_with fail
                  go_quiet (fail)
                  go_wp2_with fail
                  go_roundw
                  case rel => exact ⟨rfl, k + 1, _, by omega, by go_num, HE.out, rfl⟩
                  case measure => simp [intOf]; omega
      · obtain rfl : k = n := by omega
        go_wp2_with fail
        go_ret
        exact ⟨retB (by rw [HR.out, hS.out]), m, rfl⟩
  · have HR := Lib.hid (show eqHopsB zs zs' n n' = false from if_neg hz)
    have hz' : (((n : Int)) != ((n' : Int))) = true := by simp; omega
    go_enter Tryz.func102, Tryz.ntmps102
    go_wp2_with fail
    go_ret
    exact ⟨retB HR.out.symm, 0, rfl⟩

end Go.Proofs.YtdhdkhnefnbdgaaGreatDoor
