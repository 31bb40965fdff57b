
/- append of a row of structs to a row of the call's own, whatever the struct of one-cell fields. -/
import Derived.Test.YtdlafigjkefllaaDig
import Derived.Test.YtdlafigjkefllaaRow
namespace Go.Proofs.Ytdlafigjkefllaa
open Go Go.RowKit
set_option linter.unusedVariables false
section
variable {α : Type} [Inhabited α] {nc : Nat} {cell : α → Nat → Value}
def cellsC (nc : Nat) (cell : α → Nat → Value) (x : α) : List Value := (List.range nc).map (cell x)
def rowC (nc : Nat) (cell : α → Nat → Value) (zs : List α) : List Value := zs.flatMap (cellsC nc cell)
omit [Inhabited α] in
theorem rowC_len (zs : List α) : (rowC nc cell zs).length = zs.length * nc := by
  induction zs with
  | nil => simp [rowC]
  | cons x xs ih =>
    simp only [rowC, List.flatMap_cons, List.length_append, List.length_cons] at *
    rw [ih, Nat.succ_mul]
    simp [cellsC]
    omega
omit [Inhabited α] in
theorem rowC_app (zs ns : List α) : rowC nc cell (zs ++ ns) = rowC nc cell zs ++ rowC nc cell ns := by simp [rowC]
theorem rowC_get (h0 : 0 < nc) : ∀ (zs : List α) (j : Nat), j < zs.length * nc → (rowC nc cell zs)[j]? = some (flat nc cell zs j)
  | [], j, h => by simp at h
  | x :: xs, j, h => by
    have hc : rowC nc cell (x :: xs) = cellsC nc cell x ++ rowC nc cell xs := by simp [rowC]
    have hl : (cellsC nc cell x).length = nc := by simp [cellsC]
    rw [hc]
    by_cases hj : j < nc
    · rw [List.getElem?_append_left (by omega)]
      unfold flat
      rw [Nat.div_eq_of_lt hj, Nat.mod_eq_of_lt hj]
      simp [cellsC, hj]
    · have hj' : j - nc < xs.length * nc := by
        rw [List.length_cons, Nat.succ_mul] at h
        omega
      rw [List.getElem?_append_right (by omega), hl, rowC_get h0 xs (j - nc) hj']
      unfold flat
      have e1 : j / nc = (j - nc) / nc + 1 := Nat.div_eq_sub_div h0 (by omega)
      have e2 : j % nc = (j - nc) % nc := Nat.mod_eq_sub_mod (by omega)
      rw [e1, e2]
      rfl
omit [Inhabited α] in
theorem ownsRow_lenR (h0 : 0 < nc) {w : World} {lo n : Nat} {v : Value} {e : TypeId} {zs : List α} (h : w.ownsRow lo e nc v n (rowC nc cell zs)) : zs.length = n := by
  have := h.1
  rw [rowC_len] at this
  exact Nat.eq_of_mul_eq_mul_right h0 this
theorem ownsRow_ownR (h0 : 0 < nc) {w : World} {lo n c : Nat} {e : TypeId} {A : Option Addr} {zs : List α} (h : w.ownsRow lo e nc (.slice A n c) n (rowC nc cell zs)) : OwnR nc cell w lo w.heap.size A n zs := by
  have hl := ownsRow_lenR h0 h
  refine ⟨hl, fun hn => ?_⟩
  rcases h.2 with ⟨h', hz⟩ | ⟨g, cap, cur, h', hlo, hh, _⟩
  · omega
  · simp only [Value.slice.injEq, true_and] at h'
    obtain ⟨rfl, rfl⟩ := h'
    refine ⟨g, 0, rfl, hlo, ?_, fun j hj => ⟨?_, ?_⟩⟩
    · rcases Nat.lt_or_ge g w.heap.size with h' | h'
      · exact h'
      · rw [Array.getElem?_eq_none h'] at hh; cases hh
    · rw [Nat.zero_add, h.cellAt j hj, rowC_get h0 zs j (by rw [hl]; exact hj)]
    · rw [Nat.zero_add]; exact h.frozenAt j
theorem ownsRow_sliceR {w : World} {lo n : Nat} {e : TypeId} {v : Value} {xs : List Value} (h : w.ownsRow lo e nc v n xs) : ∃ A c, v = .slice A n c ∧ (A = none → c = 0) := by
  rcases h.2 with ⟨rfl, rfl⟩ | ⟨g, cap, cur, rfl, _⟩
  · exact ⟨none, 0, rfl, fun _ => rfl⟩
  · exact ⟨_, cap, rfl, fun h => by cases h⟩
theorem ownsRow_sliceR2 {w : World} {lo n : Nat} {e : TypeId} {v : Value} {xs : List Value} (h : w.ownsRow lo e nc v n xs) : ∃ A c, v = .slice A n c ∧ (A = none → c = 0) ∧ (n ≤ c ∧ c ≤ 9223372036854775807) := by
  rcases h.2 with ⟨rfl, rfl⟩ | ⟨g, cap, cur, rfl, _, _, hn, hm, _⟩
  · exact ⟨none, 0, rfl, fun _ => rfl, Nat.le_refl _, by omega⟩
  · exact ⟨_, cap, rfl, (fun h => by cases h), hn, Nat.le_trans hm (by unfold maxLen; omega)⟩
theorem own_emptyR (w : World) (e : TypeId) (nc : Nat) : (w.alloc (.cells #[] e)).ownsRow w.heap.size e nc (.slice (some ⟨w.heap.size, 0, none⟩) 0 0) 0 [] := by
  refine ⟨by simp, .inr ⟨w.heap.size, 0, #[], rfl, Nat.le_refl _, heap_alloc_new w _, Nat.le_refl _, by unfold maxLen; omega, by simp, by simp⟩⟩
theorem own_keptR {w w' : World} {lo n : Nat} {e : TypeId} {v : Value} {xs : List Value} (h : w.ownsRow lo e nc v n xs) (m : Mk0 w w') : w'.ownsRow lo e nc v n xs :=
  h.kept (row := none) ⟨m.os, m.tape, m.output, m.size, fun g hg _ => m.block g hg (.inr (Nat.zero_le _))⟩ (by cases hv : v.ownBlock with | none => exact .inl rfl | some g => exact .inr (by simp))
theorem own_lowR {w : World} {lo lo' n : Nat} {e : TypeId} {v : Value} {xs : List Value} (h : w.ownsRow lo' e nc v n xs) (hl : lo ≤ lo') : w.ownsRow lo e nc v n xs := by
  refine ⟨h.1, ?_⟩
  rcases h.2 with h' | ⟨g, cap, cur, h1, h2, h3⟩
  · exact .inl h'
  · exact .inr ⟨g, cap, cur, h1, by omega, h3⟩
/-- What a call's growth at its own row leaves alone. -/
theorem Mk.appR {w0 w w' : World} {g : Option Nat} (h : Mk0 w0 w) (hg : w.grownBy w' g) (hr : ∀ q, g = some q → w0.heap.size ≤ q) : Mk0 w0 w' :=
  ⟨hg.os.trans h.os, hg.tape.trans h.tape, hg.output.trans h.output, Nat.le_trans h.size hg.size, fun k hk hr' => (hg.block k (Nat.lt_of_lt_of_le hk h.size) (fun e => by have := hr _ e.symm; omega)).trans (h.block k hk hr')⟩
/-- A call that hands back a new row of structs. -/
def OutRows (nc : Nat) (cell : α → Nat → Value) (w : World) (R : List α) (e : Ending) (w' : World) : Prop :=
  ∃ A n c, e = .returned (.slice A n c) ∧ ((A = none → c = 0) ∧ (n ≤ c ∧ c ≤ 9223372036854775807)) ∧ OwnR nc cell w' w.heap.size w'.heap.size A n R ∧ Mk0 w w'
theorem OutRows.of (h0 : 0 < nc) {w w' : World} {R : List α} {v : Value} {n : Nat} {e : TypeId} (h : w'.ownsRow w.heap.size e nc v n (rowC nc cell R)) (hb : Mk0 w w') : OutRows nc cell w R (.returned v) w' := by
  obtain ⟨A, c, rfl, hc, hn⟩ := ownsRow_sliceR2 h
  exact ⟨A, n, c, rfl, ⟨hc, hn⟩, ownsRow_ownR h0 h, hb⟩
/-- A call that hands back a new row that it owns whole. -/
def OutOwn (e : TypeId) (nc : Nat) (cell : α → Nat → Value) (w : World) (R : List α) (en : Ending) (w' : World) : Prop :=
  ∃ v, en = .returned v ∧ w'.ownsRow w.heap.size e nc v R.length (rowC nc cell R) ∧ Mk0 w w'
omit [Inhabited α] in
theorem OutOwn.of (h0 : 0 < nc) {w w' : World} {R : List α} {v : Value} {n : Nat} {e : TypeId} (h : w'.ownsRow w.heap.size e nc v n (rowC nc cell R)) (hb : Mk0 w w') : OutOwn e nc cell w R (.returned v) w' := by
  have hl := ownsRow_lenR h0 h
  subst hl
  exact ⟨v, rfl, h, hb⟩
theorem OutOwn.rows (h0 : 0 < nc) {w w' : World} {R : List α} {en : Ending} {e : TypeId} (h : OutOwn e nc cell w R en w') : OutRows nc cell w R en w' := by
  obtain ⟨v, rfl, ho, hb⟩ := h
  exact OutRows.of h0 ho hb
theorem wpList_appR4 {P : Program} {w : World} {ops : Array Oper} {rest : List Oper} {o : Oper} {a : Act} {Q : Exit → Act → World → Prop} (h0 : 0 < nc) (hone : ∀ (x : α) j, (cell x j).oneCell' = true) (hgd : o.guard = none) (s x : Operand) (t : TypeId)
    (ho : o.op = .call { callee := .builtin .append, args := #[s, x], argTypes := #[t, t] })
    (lo : Nat) (e : TypeId) (i : TypeInfo) (z : Value) (ht : P.underlying t = some (.slice e)) (hi : P.info? e = some i) (hz : i.zero = some z) (hzs : z.cells.size = nc) (hsize : i.size = nc) (hby : i.bytes ≤ 80)
    (v : Value) (zs : List α) (n : Nat) (hs : a.eval s = v) (hown : w.ownsRow lo e nc v n (rowC nc cell zs))
    (A : Option Addr) (m c : Nat) (ns : List α) (hx : a.eval x = .slice A m c) (hc0 : A = none → c = 0) (hr : HasR nc cell w w.heap.size A m ns)
    (hmax : n + m ≤ 1073741824) (hlo : lo ≤ w.heap.size)
    (h : ∀ v' w', w'.ownsRow lo e nc v' (n + m) (rowC nc cell (zs ++ ns)) → w.grownBy w' v.ownBlock → (v'.ownBlock = v.ownBlock ∨ v'.ownBlock = some w.heap.size) → wpList P ops Q rest (a.put o.dst v') w') :
    wpList P ops Q (o :: rest) a w := by
  have hm := hr.1
  rcases A with _ | ad
  · have hm0 : m = 0 := by
      rcases Nat.eq_zero_or_pos m with h1 | h1
      · exact h1
      · obtain ⟨b, off, hh, _⟩ := hr.2 h1
        cases hh
    subst hm0
    obtain rfl : ns = [] := List.eq_nil_of_length_eq_zero hm
    obtain rfl := hc0 rfl
    exact wpList_append_own_none hgd s x t ho lo e i nc ht hi v n (rowC nc cell zs) hs hown hx (h v w (by simpa using hown) (World.grownBy.refl w _) (.inl rfl))
  · refine wpList_append_own_at w hgd s x t ho lo e i z nc i.bytes ht hi hz hsize rfl hzs h0 v n (rowC nc cell zs) hs hown ad m c (rowC nc cell ns) hx (by rw [rowC_len, hm]) ?_ ?_
      (by unfold maxLen; omega) ?_ hlo (fun v' w' h1 h2 _ h4 => h v' w' (by rw [rowC_app]; exact h1) h2 h4)
    · intro j u hu
      have hj : j < m * nc := by
        rcases Nat.lt_or_ge j (m * nc) with hj | hj
        · exact hj
        · rw [List.getElem?_eq_none (by rw [rowC_len, hm]; exact hj)] at hu; cases hu
      have hm0 : 0 < m := by
        rcases Nat.eq_zero_or_pos m with h1 | h1
        · subst h1; omega
        · exact h1
      obtain ⟨b, off, he, _, hcell⟩ := hr.2 hm0
      simp only [Option.some.injEq] at he
      subst he
      rw [add_plain, hcell j hj, ← rowC_get h0 ns j (by rw [hm]; exact hj)]
      exact hu
    · intro u hu
      simp only [rowC, List.mem_flatMap, cellsC, List.mem_map] at hu
      obtain ⟨y, _, j, _, rfl⟩ := hu
      exact hone y j
    · exact Nat.le_trans (Nat.mul_le_mul hmax hby) (by decide)
theorem wpList_appR {P : Program} {w : World} {ops : Array Oper} {rest : List Oper} {o : Oper} {a : Act} {Q : Exit → Act → World → Prop} (h0 : 0 < nc) (hone : ∀ (x : α) j, (cell x j).oneCell' = true) (hgd : o.guard = none) (s x : Operand) (t : TypeId)
    (ho : o.op = .call { callee := .builtin .append, args := #[s, x], argTypes := #[t, t] })
    (lo : Nat) (e : TypeId) (i : TypeInfo) (z : Value) (ht : P.underlying t = some (.slice e)) (hi : P.info? e = some i) (hz : i.zero = some z) (hzs : z.cells.size = nc) (hsize : i.size = nc) (hby : i.bytes ≤ 80)
    (v : Value) (zs : List α) (n : Nat) (hs : a.eval s = v) (hown : w.ownsRow lo e nc v n (rowC nc cell zs))
    (A : Option Addr) (m c : Nat) (ns : List α) (hx : a.eval x = .slice A m c) (hc0 : A = none → c = 0) (hr : HasR nc cell w w.heap.size A m ns)
    (hmax : n + m ≤ 1073741824) (hlo : lo ≤ w.heap.size)
    (h : ∀ v' w', w'.ownsRow lo e nc v' (n + m) (rowC nc cell (zs ++ ns)) → w.grownBy w' v.ownBlock → wpList P ops Q rest (a.put o.dst v') w') :
    wpList P ops Q (o :: rest) a w :=
  wpList_appR4 h0 hone hgd s x t ho lo e i z ht hi hz hzs hsize hby v zs n hs hown A m c ns hx hc0 hr hmax hlo (fun v' w' h1 h2 _ => h v' w' h1 h2)
/-- A row of the call's own elsewhere, behind an append. -/
theorem OwnR.grown {w w' : World} {lo hi n : Nat} {a : Option Addr} {zs : List α} {row : Option Nat} (h : OwnR nc cell w lo hi a n zs) (hg : w.grownBy w' row) (hr : ∀ q, row = some q → q < lo ∨ hi ≤ q) (hh : hi ≤ w.heap.size) : OwnR nc cell w' lo hi a n zs :=
  ⟨h.1, fun hn => by
    obtain ⟨b, off, e, hl, hb, hc⟩ := h.2 hn
    have hk : w'.heap[b]? = w.heap[b]? := hg.block b (by omega) (fun e => by have := hr b e.symm; omega)
    exact ⟨b, off, e, hl, hb, fun j hj => ⟨(World.cell?_of_block (w := w) hk).trans (hc j hj).1, (World.frozen?_of_block (w := w) hk).trans (hc j hj).2⟩⟩⟩
/-- A new row of one struct. -/
theorem hasR_new (h0 : 0 < nc) (w : World) (e : TypeId) (x : α) (vs : Array Value) (hv : ∀ j, j < nc → vs[j]? = some (cell x j)) : HasR nc cell (w.alloc (.cells vs e)) (w.alloc (.cells vs e)).heap.size (some ⟨w.heap.size, 0, none⟩) 1 [x] := by
  refine ⟨rfl, fun _ => ⟨_, 0, rfl, by simp, fun j hj => ?_⟩⟩
  rw [World.cell?_alloc_at _ _ _ _ rfl]
  have hj' : j < nc := by omega
  have e : flat nc cell [x] j = cell x j := by
    unfold flat
    rw [Nat.div_eq_of_lt hj', Nat.mod_eq_of_lt hj']
    rfl
  rw [e, Nat.zero_add]
  exact hv j hj'
/-- The elements that p lets pass. -/
def filtUp (p : α → Bool) (zs : List α) : Nat → List α
  | 0 => []
  | k + 1 => if p (zs.getD k default) = true then filtUp p zs k ++ [zs.getD k default] else filtUp p zs k
theorem filtUp_le (p : α → Bool) (zs : List α) : ∀ k, (filtUp p zs k).length ≤ k
  | 0 => Nat.le_refl _
  | k + 1 => by
    have := filtUp_le p zs k
    rw [filtUp]
    split
    · simp; omega
    · omega
end
end Go.Proofs.Ytdlafigjkefllaa
