
/- A row of numbers that are all different: its length is that of the row without repeats. -/
import Derived.Test.YtifhhfndoifbhaaGreatSortM
namespace Go.Proofs.YtifhhfndoifbhaaGreat
set_option linter.unusedVariables false
theorem SL_nodup {L : List Int} (h : SL L) : L.Nodup := List.Pairwise.imp (fun h e => by omega) h
theorem sub_len : ∀ {L M : List Int}, L.Nodup → (∀ x ∈ L, x ∈ M) → L.length ≤ M.length
  | [], M, _, _ => Nat.zero_le _
  | x :: L, M, hn, hs => by
    have hn' := List.nodup_cons.1 hn
    have hx : x ∈ M := hs x (by simp)
    have h1 := sub_len (M := M.erase x) hn'.2 (fun y hy => by
      have hne : y ≠ x := fun e => hn'.1 (e ▸ hy)
      exact (List.mem_erase_of_ne hne).2 (hs y (List.mem_cons_of_mem _ hy)))
    rw [List.length_erase_of_mem hx] at h1
    have h2 : 0 < M.length := List.length_pos_of_mem hx
    simp only [List.length_cons]
    omega
def diffB (zs : List Int) : Bool := ((uniqL zs).length : Int) == (zs.length : Int)
def hasF (zs : List Int) (x : Int) : Nat → Bool
  | 0 => false
  | k + 1 => hasF zs x k || (zs.getD k 0 == x)
theorem hasF_stop {zs : List Int} {x : Int} {j : Nat} (h : zs.getD j 0 = x) : ∀ n, j < n → hasF zs x n = true
  | 0, hk => absurd hk (by omega)
  | n + 1, hk => by
    rw [hasF]
    by_cases e : j = n
    · subst e; rw [h]; simp
    · rw [hasF_stop h n (by omega)]; rfl
theorem hasF_mem {zs : List Int} {x : Int} : ∀ k, hasF zs x k = true → ∃ j, j < k ∧ zs.getD j 0 = x
  | 0, h => by cases h
  | k + 1, h => by
    rw [hasF, Bool.or_eq_true] at h
    rcases h with h | h
    · obtain ⟨j, hj, e⟩ := hasF_mem k h; exact ⟨j, by omega, e⟩
    · exact ⟨k, by omega, by simpa using h⟩
theorem getD_at {zs : List Int} {i : Nat} (h : i < zs.length) : zs.getD i 0 = zs[i] := by
  rw [List.getD_eq_getElem?_getD, List.getElem?_eq_getElem h]; rfl
theorem diff_hit {zs : List Int} {i : Nat} (hi : i < zs.length) (h : hasF zs (zs.getD i 0) i = true) : diffB zs = false := by
  obtain ⟨j, hj, e⟩ := hasF_mem _ h
  have hs : ∀ x ∈ uniqL zs, x ∈ zs.eraseIdx i := fun x hx => by
    have hx' := (uniqL_mem zs x).1 hx
    obtain ⟨m, hm, rfl⟩ := List.getElem_of_mem hx'
    rw [List.mem_eraseIdx_iff_getElem]
    by_cases hmi : m = i
    · subst hmi
      exact ⟨j, by omega, by omega, by rw [getD_at hi, getD_at (by omega)] at e; exact e⟩
    · exact ⟨m, hm, hmi, rfl⟩
  have h1 := sub_len (SL_nodup (uniqL_SL zs)) hs
  rw [List.length_eraseIdx_of_lt hi] at h1
  unfold diffB
  simp only [beq_eq_false_iff_ne, ne_eq]
  omega
theorem diff_no {zs : List Int} (h : ∀ i, i < zs.length → hasF zs (zs.getD i 0) i = false) : diffB zs = true := by
  have hn : zs.Nodup := by
    rw [List.Nodup, List.pairwise_iff_getElem]
    intro i j hi hj hij e
    have h1 := h j hj
    rw [hasF_stop (j := i) (by rw [getD_at hi, getD_at hj]; exact e) j hij] at h1
    cases h1
  have h1 := sub_len hn (fun x hx => (uniqL_mem zs x).2 hx)
  have h2 := uniqL_len zs
  unfold diffB
  simp only [beq_iff_eq]
  omega
end Go.Proofs.YtifhhfndoifbhaaGreat
