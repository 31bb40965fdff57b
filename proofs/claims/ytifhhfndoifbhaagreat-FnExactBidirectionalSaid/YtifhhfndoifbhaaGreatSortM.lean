
/- Ascending lists of numbers. -/
import Derived.Lib.SlicesCompact
namespace Go.Proofs.YtifhhfndoifbhaaGreat
set_option linter.unusedVariables false
def SL (L : List Int) : Prop := L.Pairwise (· < ·)
theorem SL_ext : ∀ {L M : List Int}, SL L → SL M → (∀ x, x ∈ L ↔ x ∈ M) → L = M
  | [], [], _, _, _ => rfl
  | [], y :: M, _, _, h => by have := (h y).2 (by simp); simp at this
  | x :: L, [], _, _, h => by have := (h x).1 (by simp); simp at this
  | x :: L, y :: M, h1, h2, h => by
    have hl := List.pairwise_cons.1 h1
    have hm := List.pairwise_cons.1 h2
    have hxy : x = y := by
      have a := (h x).1 (by simp)
      have b := (h y).2 (by simp)
      rcases List.mem_cons.1 a with a | a
      · exact a
      · rcases List.mem_cons.1 b with b | b
        · exact b.symm
        · have := hm.1 x a; have := hl.1 y b; omega
    subst hxy
    rw [SL_ext hl.2 hm.2 fun z => ?_]
    constructor
    · intro hz
      rcases List.mem_cons.1 ((h z).1 (List.mem_cons_of_mem _ hz)) with e | e
      · have := hl.1 z hz; omega
      · exact e
    · intro hz
      rcases List.mem_cons.1 ((h z).2 (List.mem_cons_of_mem _ hz)) with e | e
      · have := hm.1 z hz; omega
      · exact e
theorem getB (zs : List Int) (j : Nat) : zs.toArray[j]! = zs.getD j 0 := by
  simp only [List.getElem!_toArray]
  rw [List.getD_eq_getElem?_getD, List.getElem!_eq_getElem?_getD]
  rfl
theorem comp_ok {zs : List Int} (h : zs.Pairwise (· ≤ ·)) : ∀ m, m ≤ zs.length → SL (Lib.compactUpTo zs.toArray m) ∧ (∀ x, x ∈ Lib.compactUpTo zs.toArray m ↔ ∃ j, j < m ∧ x = zs.getD j 0) ∧ (∀ x ∈ Lib.compactUpTo zs.toArray m, 0 < m ∧ x ≤ zs.getD (m - 1) 0)
  | 0, _ => ⟨List.Pairwise.nil, by simp [Lib.compactUpTo], by simp [Lib.compactUpTo]⟩
  | m + 1, hm => by
    obtain ⟨h1, h2, h3⟩ := comp_ok h m (by omega)
    have hle : ∀ j, j < m → zs.getD j 0 ≤ zs.getD m 0 := fun j hj => by
      have := List.pairwise_iff_getElem.1 h j m (by omega) (by omega) hj
      simpa [List.getD_eq_getElem?_getD, show j < zs.length by omega, show m < zs.length by omega] using this
    rw [Lib.compactUpTo_succ, getB]
    by_cases hk : Lib.keeps zs.toArray m = true
    · rw [if_pos hk]
      have hlt : ∀ x ∈ Lib.compactUpTo zs.toArray m, x < zs.getD m 0 := fun x hx => by
        obtain ⟨h0, h4⟩ := h3 x hx
        unfold Lib.keeps at hk
        have hk' := of_decide_eq_true hk
        rw [getB, getB] at hk'
        have h5 := hle (m - 1) (by omega)
        have h6 := hk'.resolve_left (by omega)
        omega
      refine ⟨List.pairwise_append.2 ⟨h1, by simp, fun a ha b hb => by simp at hb; subst hb; exact hlt a ha⟩, fun x => ?_, fun x hx => ?_⟩
      · rw [List.mem_append, h2]
        constructor
        · rintro (⟨j, hj, e⟩ | e)
          · exact ⟨j, by omega, e⟩
          · exact ⟨m, by omega, by simpa using e⟩
        · rintro ⟨j, hj, e⟩
          by_cases hj' : j < m
          · exact .inl ⟨j, hj', e⟩
          · obtain rfl : j = m := by omega
            exact .inr (by simpa using e)
      · rw [Nat.add_sub_cancel]
        rcases List.mem_append.1 hx with e | e
        · exact ⟨by omega, by have := hlt x e; omega⟩
        · exact ⟨by omega, Int.le_of_eq (List.mem_singleton.1 e)⟩
    · rw [if_neg hk, List.append_nil]
      have hk2 : ¬ (m = 0 ∨ zs.toArray[m]! ≠ zs.toArray[m - 1]!) := fun h => hk (decide_eq_true h)
      rw [getB, getB] at hk2
      have hm0 : 0 < m := Nat.pos_of_ne_zero fun h => hk2 (.inl h)
      have he : zs.getD m 0 = zs.getD (m - 1) 0 := by
        by_cases h : zs.getD m 0 = zs.getD (m - 1) 0
        · exact h
        · exact absurd (.inr h) hk2
      refine ⟨h1, fun x => ?_, fun x hx => ?_⟩
      · rw [h2]
        constructor
        · rintro ⟨j, hj, e⟩
          exact ⟨j, by omega, e⟩
        · rintro ⟨j, hj, e⟩
          by_cases hj' : j < m
          · exact ⟨j, hj', e⟩
          · obtain rfl : j = m := by omega
            exact ⟨j - 1, by omega, by rw [e, he]⟩
      · rw [Nat.add_sub_cancel, he]
        exact ⟨by omega, (h3 x hx).2⟩
def sortL (zs : List Int) : List Int := zs.mergeSort fun x y => decide (x ≤ y)
theorem sortL_le (zs : List Int) : (sortL zs).Pairwise (· ≤ ·) := by
  have := List.pairwise_mergeSort (le := fun x y : Int => decide (x ≤ y)) (by intro a b c h1 h2; simp only [decide_eq_true_eq] at *; omega) (by intro a b; simp only [Bool.or_eq_true, decide_eq_true_eq]; omega) zs
  exact this.imp (by intro a b h; simpa using h)
theorem sortL_len (zs : List Int) : (sortL zs).length = zs.length := List.length_mergeSort _
theorem sortL_mem (zs : List Int) (x : Int) : x ∈ sortL zs ↔ x ∈ zs := List.mem_mergeSort
/-- Sorted, each once. -/
def uniqL (zs : List Int) : List Int := Lib.compact (sortL zs)
theorem uniqL_SL (zs : List Int) : SL (uniqL zs) := (comp_ok (sortL_le zs) _ (Nat.le_refl _)).1
theorem uniqL_mem (zs : List Int) (x : Int) : x ∈ uniqL zs ↔ x ∈ zs := by
  have h := (comp_ok (sortL_le zs) _ (Nat.le_refl _)).2.1 x
  unfold uniqL Lib.compact
  rw [h, ← sortL_mem zs x, List.mem_iff_getElem]
  constructor
  · rintro ⟨j, hj, e⟩
    exact ⟨j, hj, by rw [e]; simp [List.getD_eq_getElem?_getD, hj]⟩
  · rintro ⟨j, hj, e⟩
    exact ⟨j, hj, by rw [← e]; simp [List.getD_eq_getElem?_getD, hj]⟩
theorem uniqL_len (zs : List Int) : (uniqL zs).length ≤ zs.length := by
  unfold uniqL Lib.compact Lib.compactUpTo
  rw [List.length_map]
  refine Nat.le_trans (List.length_filter_le _ _) ?_
  simp [sortL_len]
/-- The place of x among ascending numbers: behind those less than it. -/
def posL (L : List Int) (x : Int) : Nat → Nat
  | 0 => 0
  | k + 1 => if posL L x k = k ∧ k < L.length ∧ L.getD k 0 < x then k + 1 else posL L x k
def putI (L : List Int) (x : Int) (k : Nat) : List Int := if k < L.length ∧ L.getD k 0 = x then L else L.take k ++ [x] ++ L.drop k
theorem putI_ok {L : List Int} {x : Int} {k : Nat} (h : SL L) (hk : k ≤ L.length) (h1 : ∀ j, j < k → L.getD j 0 < x) (h2 : k < L.length → x ≤ L.getD k 0) : SL (putI L x k) ∧ ∀ y, y ∈ putI L x k ↔ y = x ∨ y ∈ L := by
  unfold putI
  split
  · rename_i hh
    refine ⟨h, fun y => ⟨fun hy => .inr hy, fun hy => hy.elim (fun e => ?_) id⟩⟩
    subst e
    rw [← hh.2, List.getD_eq_getElem?_getD, List.getElem?_eq_getElem hh.1]
    exact List.getElem_mem _
  · rename_i hh
    have hg : ∀ j (hj : j < L.length), L.getD j 0 = L[j] := fun j hj => by simp [List.getD_eq_getElem?_getD, hj]
    have hp := List.pairwise_iff_getElem.1 h
    have ht : ∀ a ∈ L.take k, a < x := fun a ha => by
      obtain ⟨j, hj, rfl⟩ := List.mem_iff_getElem.1 ha
      rw [List.length_take] at hj
      have := h1 j (by omega)
      rw [hg j (by omega)] at this
      simpa using this
    have hd : ∀ b ∈ L.drop k, x < b := fun b hb => by
      obtain ⟨j, hj, rfl⟩ := List.mem_iff_getElem.1 hb
      rw [List.length_drop] at hj
      have h3 := h2 (by omega)
      have h4 : L.getD k 0 ≠ x := fun e => hh ⟨by omega, e⟩
      rw [hg k (by omega)] at h3 h4
      rw [List.getElem_drop]
      rcases Nat.eq_zero_or_pos j with e | e
      · subst e; simp only [Nat.add_zero]; omega
      · have := hp k (k + j) (by omega) (by omega) (by omega); omega
    refine ⟨?_, fun y => ?_⟩
    · rw [List.append_assoc]
      refine List.pairwise_append.2 ⟨h.sublist (List.take_sublist _ _), List.pairwise_append.2 ⟨by simp, h.sublist (List.drop_sublist _ _), fun a ha b hb => ?_⟩, fun a ha b hb => ?_⟩
      · simp at ha; subst ha; exact hd b hb
      · rcases List.mem_append.1 hb with e | e
        · simp at e; subst e; exact ht a ha
        · have := ht a ha; have := hd b e; omega
    · constructor
      · intro hy
        rcases List.mem_append.1 hy with hy | hy
        · rcases List.mem_append.1 hy with hy | hy
          · exact .inr (List.mem_of_mem_take hy)
          · exact .inl (by simpa using hy)
        · exact .inr (List.mem_of_mem_drop hy)
      · rintro (rfl | hy)
        · simp
        · rw [← List.take_append_drop k L] at hy
          rcases List.mem_append.1 hy with hy | hy
          · simp [hy]
          · simp [hy]
end Go.Proofs.YtifhhfndoifbhaaGreat
