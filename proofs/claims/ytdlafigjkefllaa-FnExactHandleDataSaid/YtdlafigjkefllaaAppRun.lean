
/- Rows of Hop: a clone; what a test lets pass. -/
import Derived.Test.YtdlafigjkefllaaSHop
import Derived.Test.YtdlafigjkefllaaAppR
import Derived.Test.YtdlafigjkefllaaRow
import Derived.Laws.EntriesVeiled
import Derived.Lib.SliceRun
import Derived.Laws.OwnMore
import Derived.Lib.AppendZeros
import Derived.RegionTactic
import Derived.Orders
namespace Go.Proofs.Ytdlafigjkefllaa
open Go.ChangeShapes Go.WideShapes Go.ChangeAt Go.RowKit
set_option linter.unusedVariables false
theorem rk1Hop : ∀ (x : THop) (j : Nat), (THop.cell x j).oneCell' = true := fun x j => by unfold THop.cell; split <;> rfl
set_option maxRecDepth 100000 in
set_option maxHeartbeats 4000000 in
theorem cloneHop (a : Option Addr) (n c B : Nat) (zs : List THop) (w : World) (h : HasHop w B a n zs) (hB : B ≤ w.heap.size) (hn : n ≤ 1048576) (hc0 : a = none → c = 0) (hnc : n ≤ c) :
    Calls Try.prog 101 #[.slice a n c] w (OutOwn 115 5 THop.cell w zs) := by
  obtain ⟨i0, hi0, hz0, hz1, hz2⟩ := info_parts infoRHop
  rcases a with _ | ad
  · obtain rfl : c = 0 := hc0 rfl
    obtain rfl : n = 0 := by omega
    have hz := h.1
    have hnil : ∀ W, (binOp .eql 80 (.slice none 0 0) (.slice none 0 0)).run Try.prog W = .ok (.bool true) W := fun W => Lib.run_eql_slice_nil W _ _ _ _ _ _ _ Try.underlying80
    go_enter Try.func101, Try.ntmps101
    go_wp2_with fail
    go_ret
    obtain rfl : zs = [] := List.eq_nil_of_length_eq_zero hz
    exact ⟨_, rfl, World.ownsRow_nil _ _ _ _, Mk.refl _ _ _⟩
  · have hl0 := own_emptyR w 115 5
    have ML := Mk.alloc w (.cells #[] 115)
    have hh := (h.mk ML hB (.inr (Nat.le_refl _))).mono (Nat.le_trans hB ML.size)
    have hlo := ML.size
    have hnil : ∀ W, (binOp .eql 80 (.slice (some ad) n c) (.slice none 0 0)).run Try.prog W = .ok (.bool false) W := fun W => Lib.run_eql_slice_nil W _ _ _ _ _ _ _ Try.underlying80
    go_enter Try.func101, Try.ntmps101
    go_wp2_with (at_builtin; refine wpList_appR (by decide) rk1Hop rfl (.tmp 5) (.tmp 6) 80 rfl w.heap.size 115 i0 _ Try.underlying80 hi0 hz0 rfl hz1 (by rw [hz2]; decide) _ [] 0 rfl hl0 _ n c zs rfl (fun h => by cases h) hh (by omega) hlo ?_; intro v2 w2 hown2 hgr2)
    have M2 := ML.appR hgr2 (fun g hg => (hl0.lt g hg).1)
    go_wp2_with fail
    go_ret
    simp only [Nat.zero_add, List.nil_append] at hown2
    exact OutOwn.of (by decide) hown2 M2

end Go.Proofs.Ytdlafigjkefllaa
namespace Go.Proofs.Ytdlafigjkefllaa
open Go.ChangeShapes Go.WideShapes Go.ChangeAt Go.RowKit
set_option linter.unusedVariables false
theorem step_appR {α : Type} [Inhabited α] {nc : Nat} {cell : α → Nat → Value} {P : Program} {w : World} {ops : Array Oper} {o : Oper} {a : Act} {K : Act → World → Prop} {Q : Exit → Act → World → Prop} {E : Prop} (h0 : 0 < nc) (hone : ∀ (x : α) j, (cell x j).oneCell' = true) (hgd : o.guard = none) (s x : Operand) (t : TypeId)
    (ho : o.op = .call { callee := .builtin .append, args := #[s, x], argTypes := #[t, t] })
    (lo : Nat) (e : TypeId) (i : TypeInfo) (z : Value) (ht : P.underlying t = some (.slice e)) (hi : P.info? e = some i) (hz : i.zero = some z) (hzs : z.cells.size = nc) (hsize : i.size = nc) (hby : i.bytes ≤ 80)
    (v : Value) (zs : List α) (n : Nat) (hs : a.eval s = v) (hown : w.ownsRow lo e nc v n (rowC nc cell zs))
    (A : Option Addr) (m c : Nat) (ns : List α) (hx : a.eval x = .slice A m c) (hc0 : A = none → c = 0) (hr : HasR nc cell w w.heap.size A m ns)
    (hmax : n + m ≤ 1073741824) (hlo : lo ≤ w.heap.size)
    (h : ∀ v' w', w'.ownsRow lo e nc v' (n + m) (rowC nc cell (zs ++ ns)) → w.grownBy w' v.ownBlock → (v'.ownBlock = v.ownBlock ∨ v'.ownBlock = some w.heap.size) → K (a.put o.dst v') w') :
    if Region.wanted o (yielded ops a.tmps) = true then Oper.wp P o a w K Q else E := by
  have hm := hr.1
  have hw : Region.wanted o (yielded ops a.tmps) = true := by simp [Region.wanted, hgd]
  rw [if_pos hw]
  rcases A with _ | ad
  · have hm0 : m = 0 := by
      rcases Nat.eq_zero_or_pos m with h1 | h1
      · exact h1
      · obtain ⟨b, off, hh, _⟩ := hr.2 h1
        cases hh
    subst hm0
    obtain rfl : ns = [] := List.eq_nil_of_length_eq_zero hm
    obtain rfl := hc0 rfl
    have hrun := run_append_owned_none (P := P) (w := w) lo t o.type e i nc ht hi v n (rowC nc cell zs) hown
    exact Lib.wp_append_run w s x t t ho v _ hs hx v w hrun (h v w (by simpa using hown) (World.grownBy.refl w _) (.inl rfl))
  · obtain ⟨v', w', hr', h2, h3, _, h5⟩ := run_append_own_at (P := P) w lo t o.type e i z nc i.bytes ht hi hz hsize rfl hzs h0 v n (rowC nc cell zs) hown ad m c (rowC nc cell ns) (by rw [rowC_len, hm]) (by
      intro j u hu
      have hj : j < m * nc := by
        rcases Nat.lt_or_ge j (m * nc) with hj | hj
        · exact hj
        · rw [List.getElem?_eq_none (by rw [rowC_len, hm]; exact hj)] at hu; cases hu
      have hm0 : 0 < m := by
        rcases Nat.eq_zero_or_pos m with h1 | h1
        · subst h1; omega
        · exact h1
      obtain ⟨b, off, he, _, hcell⟩ := hr.2 hm0
      simp only [Option.some.injEq] at he
      subst he
      rw [add_plain, hcell j hj, ← rowC_get h0 ns j (by rw [hm]; exact hj)]
      exact hu) (by
      intro u hu
      simp only [rowC, List.mem_flatMap, cellsC, List.mem_map] at hu
      obtain ⟨y, _, j, _, rfl⟩ := hu
      exact hone y j)
      (by unfold maxLen; omega) (Nat.le_trans (Nat.mul_le_mul hmax hby) (by decide)) hlo
    exact Lib.wp_append_run w s x t t ho v _ hs hx v' w' hr' (h v' w' (by rw [rowC_app]; exact h2) h3 h5)
theorem mk_grewR {w0 w w' : World} {row : Option Nat} (h : Mk0 w0 w) (hg : w.grownBy w' row) (hr : ∀ g, row = some g → w0.heap.size ≤ g) : Mk0 w0 w' := h.appR hg hr
end Go.Proofs.Ytdlafigjkefllaa
