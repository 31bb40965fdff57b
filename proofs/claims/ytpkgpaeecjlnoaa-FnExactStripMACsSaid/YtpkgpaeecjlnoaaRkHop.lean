
/- Rows of Hop: a clone; what a test lets pass. -/
import Derived.Test.YtpkgpaeecjlnoaaSHop
import Derived.Test.YtpkgpaeecjlnoaaAppR
import Derived.Test.YtpkgpaeecjlnoaaRet
import Derived.Laws.EntriesVeiled
import Derived.Lib.SliceRun
namespace Go.Proofs.Ytpkgpaeecjlnoaa
open Go.ChangeShapes Go.WideShapes Go.ChangeAt Go.RowKit
set_option linter.unusedVariables false
theorem rk1Hop : ∀ (x : THop) (j : Nat), (THop.cell x j).oneCell' = true := fun x j => by unfold THop.cell; split <;> rfl
set_option maxRecDepth 100000 in
set_option maxHeartbeats 4000000 in
theorem cloneHop (a : Option Addr) (n c B : Nat) (zs : List THop) (w : World) (h : HasHop w B a n zs) (hB : B ≤ w.heap.size) (hn : n ≤ 1048576) (hc0 : a = none → c = 0) (hnc : n ≤ c) :
    Calls Try.prog 100 #[.slice a n c] w (OutOwn 131 5 THop.cell w zs) := by
  obtain ⟨i0, hi0, hz0, hz1, hz2⟩ := info_parts infoRHop
  rcases a with _ | ad
  · obtain rfl : c = 0 := hc0 rfl
    obtain rfl : n = 0 := by omega
    have hz := h.1
    have hnil : ∀ W, (binOp .eql 37 (.slice none 0 0) (.slice none 0 0)).run Try.prog W = .ok (.bool true) W := fun W => Lib.run_eql_slice_nil W _ _ _ _ _ _ _ Try.underlying37
    go_enter Try.func100, Try.ntmps100
    go_wp2_with fail
    go_ret
    obtain rfl : zs = [] := List.eq_nil_of_length_eq_zero hz
    exact ⟨_, rfl, World.ownsRow_nil _ _ _ _, Mk.refl _ _ _⟩
  · have hl0 := own_emptyR w 131 5
    have ML := Mk.alloc w (.cells #[] 131)
    have hh := (h.mk ML hB (.inr (Nat.le_refl _))).mono (Nat.le_trans hB ML.size)
    have hlo := ML.size
    have hnil : ∀ W, (binOp .eql 37 (.slice (some ad) n c) (.slice none 0 0)).run Try.prog W = .ok (.bool false) W := fun W => Lib.run_eql_slice_nil W _ _ _ _ _ _ _ Try.underlying37
    go_enter Try.func100, Try.ntmps100
    go_wp2_with (at_builtin; refine wpList_appR (by decide) rk1Hop rfl (.tmp 5) (.tmp 6) 37 rfl w.heap.size 131 i0 _ Try.underlying37 hi0 hz0 rfl hz1 (by rw [hz2]; decide) _ [] 0 rfl hl0 _ n c zs rfl (fun h => by cases h) hh (by omega) hlo ?_; intro v2 w2 hown2 hgr2)
    have M2 := ML.appR hgr2 (fun g hg => (hl0.lt g hg).1)
    go_wp2_with fail
    go_ret
    simp only [Nat.zero_add, List.nil_append] at hown2
    exact OutOwn.of (by decide) hown2 M2

end Go.Proofs.Ytpkgpaeecjlnoaa
