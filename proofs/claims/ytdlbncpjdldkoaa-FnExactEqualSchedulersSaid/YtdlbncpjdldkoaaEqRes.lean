
/- Rows of Reservation compared, by both sides. -/
import Derived.Test.YtdlbncpjdldkoaaSReservation
import Derived.Test.YtdlbncpjdldkoaaRet
import Derived.Deep.QuietTactic
import Derived.BigQuiet
import Derived.Laws.StructEq
namespace Go.Proofs.Ytdlbncpjdldkoaa
open Go.ChangeShapes Go.WideShapes Go.ChangeAt Go.RowKit
set_option linter.unusedVariables false
def eqRessame (x y : TReservation) : Bool := (x.id == y.id) && ((x.nd == y.nd) && ((x.ifc == y.ifc) && ((x.rate == y.rate) && ((x.til == y.til)))))
def eqResUp (zs zs' : List TReservation) : Nat → Bool
  | 0 => true
  | k + 1 => eqResUp zs zs' k && eqRessame (zs.getD k default) (zs'.getD k default)
theorem eqResUp_stop {zs zs' : List TReservation} {k : Nat} (h : eqRessame (zs.getD k default) (zs'.getD k default) = false) : ∀ n, k < n → eqResUp zs zs' n = false
  | 0, hk => absurd hk (by omega)
  | n + 1, hk => by
    rw [eqResUp]
    by_cases e : k = n
    · subst e; rw [h]; simp
    · rw [eqResUp_stop h n (by omega)]; rfl
theorem eqResUp_go {zs zs' : List TReservation} {k : Nat} (h0 : eqResUp zs zs' k = true) (h : eqRessame (zs.getD k default) (zs'.getD k default) = true) : eqResUp zs zs' (k + 1) = true := by
  rw [eqResUp, h0, h]; rfl
def eqResB (zs zs' : List TReservation) (n n' : Nat) : Bool := if n = n' then eqResUp zs zs' n else false

set_option maxRecDepth 100000 in
set_option maxHeartbeats 4000000 in
theorem speceqRes (a a' : Option Addr) (n n' c c' B B' : Nat) (zs zs' : List TReservation) (w : World) (h : HasReservation w B a n zs) (h' : HasReservation w B' a' n' zs') (hB : B ≤ w.heap.size) (hB' : B' ≤ w.heap.size) (hn : n ≤ 1048576) (hn' : n' ≤ 1048576) :
    Calls Try.prog 42 #[.slice a n c, .slice a' n' c'] w fun e w' => e = .returned (.bool (eqResB zs zs' n n')) ∧ Mk0 w w' := by
  by_cases hz : n = n'
  · subst hz
    have HR := Lib.hid (show eqResB zs zs' n n = eqResUp zs zs' n from if_pos rfl)
    go_enter Try.func42, Try.ntmps42
    go_wp2_with fail
    go_loopw [4, 5] (fun r i wr => r = .bool false ∧ ∃ k m : Nat, k ≤ n ∧ i = .int .i64 k ∧ Hid (eqResUp zs zs' k = true) ∧ wr = w.drewN m) (fun _ i _ => n - (intOf i).toNat)
    case atStart => exact ⟨rfl, 0, 0, Nat.zero_le _, rfl, rfl, rfl⟩
    case round =>
      obtain ⟨rfl, k, m, hk, rfl, hS, rfl⟩ := hrel
      by_cases hlt : k < n
      · obtain ⟨b, off, x, rfl, hb, hx, c0, c1, c2, c3, c4⟩ := HasReservation.at _ _ _ _ _ _ h hlt
        obtain ⟨b', off', y, rfl, hb', hy, d0, d1, d2, d3, d4⟩ := HasReservation.at _ _ _ _ _ _ h' hlt
        cases e0 : (x.id == y.id)
        · have HE := Lib.hid (show eqResB zs zs' n n = false by rw [HR.out]; exact eqResUp_stop (by rw [← hx.out, ← hy.out]; unfold eqRessame; rw [e0]; rfl) n hlt)
          go_wp2_with fail
          go_quiet (fail)
          go_wp2_with fail
          go_ret
          exact ⟨retB HE.out.symm, (Mk.drewN _ _).trans (Mk.drewN _ _)⟩
        · cases e1 : (x.nd == y.nd)
          · have HE := Lib.hid (show eqResB zs zs' n n = false by rw [HR.out]; exact eqResUp_stop (by rw [← hx.out, ← hy.out]; unfold eqRessame; rw [e0, e1]; rfl) n hlt)
            go_wp2_with fail
            go_quiet (fail)
            go_wp2_with fail
            go_ret
            exact ⟨retB HE.out.symm, (Mk.drewN _ _).trans (Mk.drewN _ _)⟩
          · cases e2 : (x.ifc == y.ifc)
            · have HE := Lib.hid (show eqResB zs zs' n n = false by rw [HR.out]; exact eqResUp_stop (by rw [← hx.out, ← hy.out]; unfold eqRessame; rw [e0, e1, e2]; rfl) n hlt)
              go_wp2_with fail
              go_quiet (fail)
              go_wp2_with fail
              go_ret
              exact ⟨retB HE.out.symm, (Mk.drewN _ _).trans (Mk.drewN _ _)⟩
            · cases e3 : (x.rate == y.rate)
              · have HE := Lib.hid (show eqResB zs zs' n n = false by rw [HR.out]; exact eqResUp_stop (by rw [← hx.out, ← hy.out]; unfold eqRessame; rw [e0, e1, e2, e3]; rfl) n hlt)
                go_wp2_with fail
                go_quiet (fail)
                go_wp2_with fail
                go_ret
                exact ⟨retB HE.out.symm, (Mk.drewN _ _).trans (Mk.drewN _ _)⟩
              · cases e4 : (x.til == y.til)
                · have HE := Lib.hid (show eqResB zs zs' n n = false by rw [HR.out]; exact eqResUp_stop (by rw [← hx.out, ← hy.out]; unfold eqRessame; rw [e0, e1, e2, e3, e4]; rfl) n hlt)
                  go_wp2_with fail
                  go_quiet (fail)
                  go_wp2_with fail
                  go_ret
                  exact ⟨retB HE.out.symm, (Mk.drewN _ _).trans (Mk.drewN _ _)⟩
                · have HE := Lib.hid (eqResUp_go hS.out (by rw [← hx.out, ← hy.out]; unfold eqRessame; rw [e0, e1, e2, e3, e4]; rfl))
                  go_wp2_with fail
                  go_quiet (fail)
                  go_wp2_with fail
                  go_roundw
                  case rel => exact ⟨rfl, k + 1, _, by omega, by go_num, HE.out, rfl⟩
                  case measure => simp [intOf]; omega
      · obtain rfl : k = n := by omega
        go_wp2_with fail
        go_ret
        exact ⟨retB (by rw [HR.out, hS.out]), Mk.drewN _ _⟩
  · have HR := Lib.hid (show eqResB zs zs' n n' = false from if_neg hz)
    have hz' : (((n : Int)) != ((n' : Int))) = true := by simp; omega
    go_enter Try.func42, Try.ntmps42
    go_wp2_with fail
    go_ret
    exact ⟨retB HR.out.symm, Mk.refl _ _ _⟩

set_option maxRecDepth 100000 in
set_option maxHeartbeats 4000000 in
theorem impleqRes (a a' : Option Addr) (n n' c c' B B' : Nat) (zs zs' : List TReservation) (w : World) (h : HasReservation w B a n zs) (h' : HasReservation w B' a' n' zs') (hB : B ≤ w.heap.size) (hB' : B' ≤ w.heap.size) (hn : n ≤ 1048576) (hn' : n' ≤ 1048576) :
    Calls Try.prog 70 #[.slice a n c, .slice a' n' c'] w fun e w' => e = .returned (.bool (eqResB zs zs' n n')) ∧ Mk0 w w' := by
  by_cases hz : n = n'
  · subst hz
    have HR := Lib.hid (show eqResB zs zs' n n = eqResUp zs zs' n from if_pos rfl)
    go_enter Try.func70, Try.ntmps70
    go_wp2_with fail
    go_loopw [4, 13] (fun r i wr => r = .bool false ∧ ∃ k m : Nat, k ≤ n ∧ i = .int .i64 k ∧ Hid (eqResUp zs zs' k = true) ∧ wr = w.drewN m) (fun _ i _ => n - (intOf i).toNat)
    case atStart => exact ⟨rfl, 0, 0, Nat.zero_le _, rfl, rfl, rfl⟩
    case round =>
      obtain ⟨rfl, k, m, hk, rfl, hS, rfl⟩ := hrel
      by_cases hlt : k < n
      · obtain ⟨b, off, x, rfl, hb, hx, c0, c1, c2, c3, c4⟩ := HasReservation.at _ _ _ _ _ _ h hlt
        obtain ⟨b', off', y, rfl, hb', hy, d0, d1, d2, d3, d4⟩ := HasReservation.at _ _ _ _ _ _ h' hlt
        cases e0 : (x.id == y.id)
        · have HE := Lib.hid (show eqResB zs zs' n n = false by rw [HR.out]; exact eqResUp_stop (by rw [← hx.out, ← hy.out]; unfold eqRessame; rw [e0]; rfl) n hlt)
          go_wp2_with fail
          go_quiet (fail)
          go_wp2_with fail
          go_ret
          exact ⟨retB HE.out.symm, (Mk.drewN _ _).trans (Mk.drewN _ _)⟩
        · cases e1 : (x.nd == y.nd)
          · have HE := Lib.hid (show eqResB zs zs' n n = false by rw [HR.out]; exact eqResUp_stop (by rw [← hx.out, ← hy.out]; unfold eqRessame; rw [e0, e1]; rfl) n hlt)
            go_wp2_with fail
            go_quiet (fail)
            go_wp2_with fail
            go_ret
            exact ⟨retB HE.out.symm, (Mk.drewN _ _).trans (Mk.drewN _ _)⟩
          · cases e2 : (x.ifc == y.ifc)
            · have HE := Lib.hid (show eqResB zs zs' n n = false by rw [HR.out]; exact eqResUp_stop (by rw [← hx.out, ← hy.out]; unfold eqRessame; rw [e0, e1, e2]; rfl) n hlt)
              go_wp2_with fail
              go_quiet (fail)
              go_wp2_with fail
              go_ret
              exact ⟨retB HE.out.symm, (Mk.drewN _ _).trans (Mk.drewN _ _)⟩
            · cases e3 : (x.rate == y.rate)
              · have HE := Lib.hid (show eqResB zs zs' n n = false by rw [HR.out]; exact eqResUp_stop (by rw [← hx.out, ← hy.out]; unfold eqRessame; rw [e0, e1, e2, e3]; rfl) n hlt)
                go_wp2_with fail
                go_quiet (fail)
                go_wp2_with fail
                go_ret
                exact ⟨retB HE.out.symm, (Mk.drewN _ _).trans (Mk.drewN _ _)⟩
              · cases e4 : (x.til == y.til)
                · have HE := Lib.hid (show eqResB zs zs' n n = false by rw [HR.out]; exact eqResUp_stop (by rw [← hx.out, ← hy.out]; unfold eqRessame; rw [e0, e1, e2, e3, e4]; rfl) n hlt)
                  go_wp2_with fail
                  go_quiet (fail)
                  go_wp2_with fail
                  go_ret
                  exact ⟨retB HE.out.symm, (Mk.drewN _ _).trans (Mk.drewN _ _)⟩
                · have HE := Lib.hid (eqResUp_go hS.out (by rw [← hx.out, ← hy.out]; unfold eqRessame; rw [e0, e1, e2, e3, e4]; rfl))
                  go_wp2_with fail
                  go_quiet (fail)
                  go_wp2_with fail
                  go_roundw
                  case rel => exact ⟨rfl, k + 1, _, by omega, by go_num, HE.out, rfl⟩
                  case measure => simp [intOf]; omega
      · obtain rfl : k = n := by omega
        go_wp2_with fail
        go_ret
        exact ⟨retB (by rw [HR.out, hS.out]), Mk.drewN _ _⟩
  · have HR := Lib.hid (show eqResB zs zs' n n' = false from if_neg hz)
    have hz' : (((n : Int)) != ((n' : Int))) = true := by simp; omega
    go_enter Try.func70, Try.ntmps70
    go_wp2_with fail
    go_ret
    exact ⟨retB HR.out.symm, Mk.refl _ _ _⟩

set_option maxRecDepth 100000 in
set_option maxHeartbeats 4000000 in
theorem implLeqRes (a a' : Option Addr) (n n' c c' B B' : Nat) (zs zs' : List TReservation) (w : World) (h : HasReservation w B a n zs) (h' : HasReservation w B' a' n' zs') (hB : B ≤ w.heap.size) (hB' : B' ≤ w.heap.size) (hn : n ≤ 1048576) (hn' : n' ≤ 1048576) :
    Calls Try.prog 43 #[.slice a n c, .slice a' n' c'] w fun e w' => e = .returned (.bool (eqResB zs zs' n n')) ∧ Mk0 w w' := by
  go_enter Try.func43, Try.ntmps43
  go_wp2_with fail
  refine (impleqRes a a' n n' c c' B B' zs zs' _ h h' hB hB' hn hn').mono ?_
  rintro e w2 ⟨rfl, m2⟩
  go_wp2_with fail
  go_ret
  exact ⟨rfl, m2⟩
end Go.Proofs.Ytdlbncpjdldkoaa
