
/- append of numbers at a step of a region that draws its order. -/
import Derived.Test.YtldnfjpdhmjhoaaDig
import Derived.Test.YtldnfjpdhmjhoaaRow
import Derived.Test.YtldnfjpdhmjhoaaAppR
import Derived.Lib.AppendZeros
import Derived.RegionTactic
import Derived.Orders
namespace Go.Proofs.Ytldnfjpdhmjhoaa
open Go.ChangeShapes Go.WideShapes Go.ChangeAt Go.RowKit
set_option linter.unusedVariables false
theorem step_app {P : Program} {k : IntKind} {w : World} {ops : Array Oper} {o : Oper} {a : Act} {K : Act → World → Prop} {Q : Exit → Act → World → Prop} {E : Prop} (hgd : o.guard = none) (s x : Operand) (t : TypeId)
    (ho : o.op = .call { callee := .builtin .append, args := #[s, x], argTypes := #[t, t] })
    (lo : Nat) (e : TypeId) (i : TypeInfo) (ht : P.underlying t = some (.slice e)) (hi : P.info? e = some i) (hz : i.zero = some (.int k 0)) (hsize : i.size = 1) (hby : i.bytes ≤ 8)
    (v : Value) (zs : List Int) (n : Nat) (hs : a.eval s = v) (hown : w.ownsRow lo e 1 v n (zs.map (.int k)))
    (ad : Addr) (m c : Nat) (ns : List Int) (hx : a.eval x = .slice (some ad) m c) (hr : Has k w w.heap.size (some ad) m ns)
    (hmax : n + m ≤ 1073741824) (hlo : lo ≤ w.heap.size)
    (h : ∀ v' w', w'.ownsRow lo e 1 v' (n + m) ((zs ++ ns).map (.int k)) → w.grownBy w' v.ownBlock → (v'.ownBlock = v.ownBlock ∨ v'.ownBlock = some w.heap.size) → K (a.put o.dst v') w') :
    if Region.wanted o (yielded ops a.tmps) = true then Oper.wp P o a w K Q else E := by
  have hm := hr.1
  have hw : Region.wanted o (yielded ops a.tmps) = true := by simp [Region.wanted, hgd]
  rw [if_pos hw]
  obtain ⟨v', w', hr', h2, h3, _, h5⟩ := run_append_own_at (P := P) w lo t o.type e i (.int k 0) 1 i.bytes ht hi hz hsize rfl rfl (by decide) v n (zs.map (.int k)) hown ad m c (ns.map (.int k)) (by simp [hm]) (by
    intro j u hu
    have hj : j < m := by
      rcases Nat.lt_or_ge j m with hj | hj
      · exact hj
      · rw [List.getElem?_eq_none (by simp [hm]; omega)] at hu; cases hu
    obtain ⟨b, off, he, _, hcell⟩ := hr.2 (by omega)
    simp only [Option.some.injEq] at he
    subst he
    rw [add_plain, hcell j hj]
    rw [List.getElem?_map, List.getElem?_eq_getElem (by omega)] at hu
    simp only [Option.map_some, Option.some.injEq] at hu
    rw [← hu]
    simp [List.getD_eq_getElem?_getD, hm, hj]) (by simp [Value.oneCell']) (by unfold maxLen; omega) (Nat.le_trans (Nat.mul_le_mul hmax hby) (by decide)) hlo
  exact Lib.wp_append_run w s x t t ho v _ hs hx v' w' hr' (h v' w' (by simpa using h2) h3 h5)
theorem has_one {w : World} {B g : Nat} {x : Int} (h : w.cell? ⟨g, 0, none⟩ = some (.int .i64 x)) (hg : g < B) : Has .i64 w B (some ⟨g, 0, none⟩) 1 [x] := by
  refine ⟨rfl, fun _ => ⟨g, 0, rfl, hg, fun i hi => ?_⟩⟩
  obtain rfl : i = 0 := by omega
  exact h
theorem cell_grew {w w' : World} {row : Option Nat} {g : Nat} {v : Value} (hg : w.grownBy w' row) (hc : w.cell? ⟨g, 0, none⟩ = some v) (hne : row ≠ some g) : w'.cell? ⟨g, 0, none⟩ = some v :=
  (World.cell?_of_block (w := w) (hg.block g (World.block_lt_of_cell? w _ hc) (fun e => hne e.symm))).trans hc
theorem mk_grew {w0 w w' : World} {row : Option Nat} (h : Mk0 w0 w) (hg : w.grownBy w' row) (hr : ∀ g, row = some g → w0.heap.size ≤ g) : Mk0 w0 w' := h.appR hg hr
end Go.Proofs.Ytldnfjpdhmjhoaa
