
/- append of a row of hops to a row of the call's own. -/
import Derived.Test.YtiphndgmgpiodaaApp
import Derived.Test.YtiphndgmgpiodaaSHop
namespace Go.Proofs.Ytiphndgmgpiodaa
open Go Go.RowKit
set_option linter.unusedVariables false
def hopC (x : THop) : List Value := [.int .i64 x.nd, .int .i64 x.ing, .int .i64 x.eg, .int .i64 x.exp, .int .i64 x.mac]
def hopsC (zs : List THop) : List Value := zs.flatMap hopC
theorem hopsC_len (zs : List THop) : (hopsC zs).length = zs.length * 5 := by
  induction zs with
  | nil => rfl
  | cons x xs ih => simp only [hopsC, List.flatMap_cons, List.length_append, List.length_cons] at *; rw [ih]; simp [hopC]; omega
theorem hopsC_app (zs ns : List THop) : hopsC (zs ++ ns) = hopsC zs ++ hopsC ns := by simp [hopsC]
theorem hopsC_get : ∀ (zs : List THop) (j : Nat), j < zs.length * 5 → (hopsC zs)[j]? = some (flat 5 THop.cell zs j)
  | [], j, h => by simp at h
  | x :: xs, j, h => by
    have hc : hopsC (x :: xs) = hopC x ++ hopsC xs := by simp [hopsC]
    rw [hc]
    by_cases hj : j < 5
    · rw [List.getElem?_append_left (by simpa [hopC] using hj)]
      have e1 : j / 5 = 0 := by omega
      have e2 : j % 5 = j := by omega
      unfold flat
      rw [e1, e2]
      match j, hj with
      | 0, _ => rfl
      | 1, _ => rfl
      | 2, _ => rfl
      | 3, _ => rfl
      | 4, _ => rfl
    · rw [List.getElem?_append_right (by simp [hopC]; omega)]
      have hl : (hopC x).length = 5 := rfl
      rw [hl, hopsC_get xs (j - 5) (by simp at h; omega)]
      unfold flat
      have e1 : j / 5 = (j - 5) / 5 + 1 := by omega
      have e2 : j % 5 = (j - 5) % 5 := by omega
      rw [e1, e2]
      rfl
theorem ownsRow_hops {w : World} {lo n c : Nat} {e : TypeId} {A : Option Addr} {zs : List THop} (h : w.ownsRow lo e 5 (.slice A n c) n (hopsC zs)) : HasHop w w.heap.size A n zs := by
  have hl : zs.length = n := by have := h.1; rw [hopsC_len] at this; omega
  refine ⟨hl, fun hn => ?_⟩
  rcases h.2 with ⟨h', h0⟩ | ⟨g, cap, cur, h', hlo, hh, _⟩
  · omega
  · simp only [Value.slice.injEq, true_and] at h'
    obtain ⟨rfl, rfl⟩ := h'
    refine ⟨g, 0, rfl, ?_, fun j hj => ?_⟩
    · rcases Nat.lt_or_ge g w.heap.size with h' | h'
      · exact h'
      · rw [Array.getElem?_eq_none h'] at hh; cases hh
    · rw [Nat.zero_add, h.cellAt j hj, hopsC_get zs j (by omega)]
theorem ownsRow_sliceH {w : World} {lo n : Nat} {e : TypeId} {v : Value} {xs : List Value} (h : w.ownsRow lo e 5 v n xs) : ∃ A c, v = .slice A n c ∧ (A = none → c = 0) := by
  rcases h.2 with ⟨rfl, rfl⟩ | ⟨g, cap, cur, rfl, _⟩
  · exact ⟨none, 0, rfl, fun _ => rfl⟩
  · exact ⟨_, cap, rfl, fun h => by cases h⟩
theorem own_emptyH (w : World) (e : TypeId) : (w.alloc (.cells #[] e)).ownsRow w.heap.size e 5 (.slice (some ⟨w.heap.size, 0, none⟩) 0 0) 0 [] := by
  refine ⟨by simp, .inr ⟨w.heap.size, 0, #[], rfl, Nat.le_refl _, heap_alloc_new w _, Nat.le_refl _, by unfold maxLen; omega, by simp, by simp⟩⟩
theorem own_keptH {w w' : World} {lo n : Nat} {e : TypeId} {v : Value} {xs : List Value} (h : w.ownsRow lo e 5 v n xs) (m : Mk0 w w') : w'.ownsRow lo e 5 v n xs :=
  h.kept (row := none) ⟨m.os, m.tape, m.output, m.size, fun g hg _ => m.block g hg (.inr (Nat.zero_le _))⟩ (by cases hv : v.ownBlock with | none => exact .inl rfl | some g => exact .inr (by simp))
/-- What a call's growth at its own row leaves alone. -/
theorem Mk.appH {w0 w w' : World} {g : Option Nat} (h : Mk0 w0 w) (hg : w.grownBy w' g) (hr : ∀ q, g = some q → w0.heap.size ≤ q) : Mk0 w0 w' :=
  ⟨hg.os.trans h.os, hg.tape.trans h.tape, hg.output.trans h.output, Nat.le_trans h.size hg.size, fun k hk hr' => (hg.block k (Nat.lt_of_lt_of_le hk h.size) (fun e => by have := hr _ e.symm; omega)).trans (h.block k hk hr')⟩
theorem wpList_appH {P : Program} {w : World} {ops : Array Oper} {rest : List Oper} {o : Oper} {a : Act} {Q : Exit → Act → World → Prop} (hgd : o.guard = none) (s x : Operand) (t : TypeId)
    (ho : o.op = .call { callee := .builtin .append, args := #[s, x], argTypes := #[t, t] })
    (lo : Nat) (e : TypeId) (i : TypeInfo) (ht : P.underlying t = some (.slice e)) (hi : P.info? e = some i) (hz : i.zero = some (.agg #[.int .i64 0, .int .i64 0, .int .i64 0, .int .i64 0, .int .i64 0])) (hsize : i.size = 5) (hby : i.bytes ≤ 40)
    (v : Value) (zs : List THop) (n : Nat) (hs : a.eval s = v) (hown : w.ownsRow lo e 5 v n (hopsC zs))
    (A : Option Addr) (m c : Nat) (ns : List THop) (hx : a.eval x = .slice A m c) (hc0 : A = none → c = 0) (hr : HasHop w w.heap.size A m ns)
    (hmax : n + m ≤ 1073741824) (hlo : lo ≤ w.heap.size)
    (h : ∀ v' w', w'.ownsRow lo e 5 v' (n + m) (hopsC (zs ++ ns)) → w.grownBy w' v.ownBlock → wpList P ops Q rest (a.put o.dst v') w') :
    wpList P ops Q (o :: rest) a w := by
  have hm := hr.1
  rcases A with _ | ad
  · have h0 : m = 0 := by
      rcases Nat.eq_zero_or_pos m with h0 | h0
      · exact h0
      · obtain ⟨b, off, hh, _⟩ := hr.2 h0
        cases hh
    subst h0
    obtain rfl : ns = [] := List.eq_nil_of_length_eq_zero hm
    obtain rfl := hc0 rfl
    exact wpList_append_own_none hgd s x t ho lo e i 5 ht hi v n (hopsC zs) hs hown hx (h v w (by simpa using hown) (World.grownBy.refl w _))
  · refine wpList_append_own_at w hgd s x t ho lo e i (.agg #[.int .i64 0, .int .i64 0, .int .i64 0, .int .i64 0, .int .i64 0]) 5 i.bytes ht hi hz hsize rfl rfl (by decide) v n (hopsC zs) hs hown ad m c (hopsC ns) hx (by rw [hopsC_len, hm]) ?_ ?_
      (by unfold maxLen; omega) ?_ hlo (fun v' w' h1 h2 _ h4 => h v' w' (by rw [hopsC_app]; exact h1) h2)
    · intro j u hu
      have hj : j < m * 5 := by
        rcases Nat.lt_or_ge j (m * 5) with hj | hj
        · exact hj
        · rw [List.getElem?_eq_none (by rw [hopsC_len, hm]; exact hj)] at hu; cases hu
      obtain ⟨b, off, he, _, hcell⟩ := hr.2 (by omega)
      simp only [Option.some.injEq] at he
      subst he
      rw [add_plain, hcell j hj, ← hopsC_get ns j (by omega)]
      exact hu
    · intro u hu
      simp only [hopsC, List.mem_flatMap, hopC, List.mem_cons, List.not_mem_nil, or_false] at hu
      obtain ⟨y, _, hy⟩ := hu
      rcases hy with rfl | rfl | rfl | rfl | rfl <;> rfl
    · exact Nat.le_trans (Nat.mul_le_mul hmax hby) (by decide)
end Go.Proofs.Ytiphndgmgpiodaa
