
/- append of a row of integers to a row of the call's own; what a call's own row reads as. -/
import Derived.Test.YtoicmmandniagaaMem
import Derived.Handy
import Derived.OwnWalk
import Derived.Maps.AppendAt
import Derived.Laws.AppendOwnNone
import Derived.Lib.AppendZeros
import Derived.Deep.QuietTactic
import Derived.BigQuiet
namespace Go.Proofs.Ytoicmmandniagaa
open Go Go.RowKit
set_option linter.unusedVariables false

theorem own_lit (w : World) (e : TypeId) (us : List Value) (hm : us.length ≤ 1073741824) :
    (w.alloc (.cells us.toArray e)).ownsRow w.heap.size e 1 (.slice (some ⟨w.heap.size, 0, none⟩) us.length us.length) us.length us := by
  refine ⟨by simp, .inr ⟨w.heap.size, us.length, us.toArray, rfl, Nat.le_refl _, heap_alloc_new w _, Nat.le_refl _, by unfold maxLen; omega, by simp, by simp⟩⟩

theorem ownsRow_slice {w : World} {lo n : Nat} {e : TypeId} {v : Value} {xs : List Value} (h : w.ownsRow lo e 1 v n xs) : ∃ A c, v = .slice A n c ∧ (A = none → c = 0) := by
  rcases h.2 with ⟨rfl, rfl⟩ | ⟨g, cap, cur, rfl, _⟩
  · exact ⟨none, 0, rfl, fun _ => rfl⟩
  · exact ⟨_, cap, rfl, fun h => by cases h⟩

theorem ownsRow_own {k : IntKind} {w : World} {lo n c : Nat} {e : TypeId} {A : Option Addr} {zs : List Int} (h : w.ownsRow lo e 1 (.slice A n c) n (zs.map (.int k))) : Own k w lo A n zs := by
  have hl : zs.length = n := by have := h.1; simpa using this
  refine ⟨hl, fun hn => ?_⟩
  have h2 := h.2
  rcases h2 with ⟨h', h0⟩ | ⟨g, cap, cur, h', hlo, hh, _⟩
  · omega
  · simp only [Value.slice.injEq, true_and] at h'
    obtain ⟨rfl, rfl⟩ := h'
    refine ⟨g, 0, rfl, hlo, ?_, fun i hi => ⟨?_, ?_⟩⟩
    · rcases Nat.lt_or_ge g w.heap.size with h' | h'
      · exact h'
      · rw [Array.getElem?_eq_none h'] at hh; cases hh
    · rw [Nat.zero_add, h.cellAt i (by omega)]
      simp [List.getD_eq_getElem?_getD, hl, hi]
    · rw [Nat.zero_add]; exact h.frozenAt i

theorem OutR.of {k : IntKind} {w w' : World} {R : List Int} {v : Value} {n : Nat} {e : TypeId} (h : w'.ownsRow w.heap.size e 1 v n (R.map (.int k))) (hb : Below w.heap.size w w') : OutR k w R (.returned v) w' := by
  obtain ⟨A, c, rfl, hc⟩ := ownsRow_slice h
  exact ⟨A, n, c, rfl, hc, ownsRow_own h, hb⟩
theorem own_low {w : World} {lo lo' n : Nat} {e : TypeId} {v : Value} {xs : List Value} (h : w.ownsRow lo' e 1 v n xs) (hl : lo ≤ lo') : w.ownsRow lo e 1 v n xs := by
  refine ⟨h.1, ?_⟩
  rcases h.2 with h' | ⟨g, cap, cur, h1, h2, h3⟩
  · exact .inl h'
  · exact .inr ⟨g, cap, cur, h1, by omega, h3⟩
theorem has_new (k : IntKind) (w : World) (e : TypeId) (u : Int) : Has k (w.alloc (.cells #[.int k u] e)) (w.alloc (.cells #[.int k u] e)).heap.size (some ⟨w.heap.size, 0, none⟩) 1 [u] := by
  refine ⟨rfl, fun _ => ⟨_, 0, rfl, by simp, fun i hi => ?_⟩⟩
  obtain rfl : i = 0 := by omega
  simp

theorem Has.alloc {k : IntKind} {w : World} {A : Option Addr} {n : Nat} {zs : List Int} (h : Has k w w.heap.size A n zs) (o : Obj) : Has k (w.alloc o) (w.alloc o).heap.size A n zs :=
  h.next ((Below.refl _ _).alloc (Nat.le_refl _) o)

/-- append(v, s...), v the call's own, s whatever reads as ns. -/
theorem wpList_app {P : Program} {k : IntKind} {w : World} {ops : Array Oper} {rest : List Oper} {o : Oper} {a : Act} {Q : Exit → Act → World → Prop} (hgd : o.guard = none) (s x : Operand) (t : TypeId)
    (ho : o.op = .call { callee := .builtin .append, args := #[s, x], argTypes := #[t, t] })
    (lo : Nat) (e : TypeId) (i : TypeInfo) (ht : P.underlying t = some (.slice e)) (hi : P.info? e = some i) (hz : i.zero = some (.int k 0)) (hsize : i.size = 1) (hby : i.bytes ≤ 8)
    (v : Value) (zs : List Int) (n : Nat) (hs : a.eval s = v) (hown : w.ownsRow lo e 1 v n (zs.map (.int k)))
    (A : Option Addr) (m c : Nat) (ns : List Int) (hx : a.eval x = .slice A m c) (hc0 : A = none → c = 0) (hr : Has k w w.heap.size A m ns)
    (hmax : n + m ≤ 1073741824) (hlo : lo ≤ w.heap.size)
    (h : ∀ v' w', w'.ownsRow lo e 1 v' (n + m) ((zs ++ ns).map (.int k)) → w.grownBy w' v.ownBlock → (v'.ownBlock = v.ownBlock ∨ v'.ownBlock = some w.heap.size) → wpList P ops Q rest (a.put o.dst v') w') :
    wpList P ops Q (o :: rest) a w := by
  have hm := hr.1
  rcases A with _ | ad
  · have h0 : m = 0 := by
      rcases Nat.eq_zero_or_pos m with h0 | h0
      · exact h0
      · obtain ⟨b, off, hh, _⟩ := hr.2 h0
        cases hh
    subst h0
    obtain rfl : ns = [] := List.eq_nil_of_length_eq_zero hm
    obtain rfl := hc0 rfl
    exact wpList_append_own_none hgd s x t ho lo e i 1 ht hi v n (zs.map (.int k)) hs hown hx (h v w (by simpa using hown) (World.grownBy.refl w _) (.inl rfl))
  · refine wpList_append_own_at w hgd s x t ho lo e i (.int k 0) 1 i.bytes ht hi hz hsize rfl rfl (by decide) v n (zs.map (.int k)) hs hown ad m c (ns.map (.int k)) hx (by simp [hm]) ?_ (by simp [Value.oneCell'])
      (by unfold maxLen; omega) ?_ hlo (fun v' w' h1 h2 _ h4 => h v' w' (by simpa using h1) h2 h4)
    · intro j u hu
      have hj : j < m := by
        rcases Nat.lt_or_ge j m with hj | hj
        · exact hj
        · rw [List.getElem?_eq_none (by simp [hm]; omega)] at hu; cases hu
      obtain ⟨b, off, he, _, hcell⟩ := hr.2 (by omega)
      simp only [Option.some.injEq] at he
      subst he
      rw [add_plain, hcell j hj]
      rw [List.getElem?_map, List.getElem?_eq_getElem (by omega)] at hu
      simp only [Option.map_some, Option.some.injEq] at hu
      rw [← hu]
      simp [List.getD_eq_getElem?_getD, hm, hj]
    · exact Nat.le_trans (Nat.mul_le_mul hmax hby) (by decide)
end Go.Proofs.Ytoicmmandniagaa
