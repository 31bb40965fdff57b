
/- Ascending lists of numbers. -/
import Derived.Lib.SlicesCompact
import Derived.Test.YtjdlkgfelccicaaGreatRow
import Derived.Test.YtjdlkgfelccicaaGreatApp
import Derived.Test.YtjdlkgfelccicaaGreatShelf
import Derived.Test.YtjdlkgfelccicaaGreatStepI
import Derived.Test.YtjdlkgfelccicaaGreatInfo
import Derived.Test.YtjdlkgfelccicaaGreatWt
import Derived.Test.YtjdlkgfelccicaaGreatWfPS
import Derived.Test.YtjdlkgfelccicaaGreatRet
import Derived.Test.YtjdlkgfelccicaaGreatWk
namespace Go.Proofs.YtjdlkgfelccicaaGreat
set_option linter.unusedVariables false
def SL (L : List Int) : Prop := L.Pairwise (· < ·)
theorem SL_ext : ∀ {L M : List Int}, SL L → SL M → (∀ x, x ∈ L ↔ x ∈ M) → L = M
  | [], [], _, _, _ => rfl
  | [], y :: M, _, _, h => by have := (h y).2 (by simp); simp at this
  | x :: L, [], _, _, h => by have := (h x).1 (by simp); simp at this
  | x :: L, y :: M, h1, h2, h => by
    have hl := List.pairwise_cons.1 h1
    have hm := List.pairwise_cons.1 h2
    have hxy : x = y := by
      have a := (h x).1 (by simp)
      have b := (h y).2 (by simp)
      rcases List.mem_cons.1 a with a | a
      · exact a
      · rcases List.mem_cons.1 b with b | b
        · exact b.symm
        · have := hm.1 x a; have := hl.1 y b; omega
    subst hxy
    rw [SL_ext hl.2 hm.2 fun z => ?_]
    constructor
    · intro hz
      rcases List.mem_cons.1 ((h z).1 (List.mem_cons_of_mem _ hz)) with e | e
      · have := hl.1 z hz; omega
      · exact e
    · intro hz
      rcases List.mem_cons.1 ((h z).2 (List.mem_cons_of_mem _ hz)) with e | e
      · have := hm.1 z hz; omega
      · exact e
theorem getB (zs : List Int) (j : Nat) : zs.toArray[j]! = zs.getD j 0 := by
  simp only [List.getElem!_toArray]
  rw [List.getD_eq_getElem?_getD, List.getElem!_eq_getElem?_getD]
  rfl
theorem comp_ok {zs : List Int} (h : zs.Pairwise (· ≤ ·)) : ∀ m, m ≤ zs.length → SL (Lib.compactUpTo zs.toArray m) ∧ (∀ x, x ∈ Lib.compactUpTo zs.toArray m ↔ ∃ j, j < m ∧ x = zs.getD j 0) ∧ (∀ x ∈ Lib.compactUpTo zs.toArray m, 0 < m ∧ x ≤ zs.getD (m - 1) 0)
  | 0, _ => ⟨List.Pairwise.nil, by simp [Lib.compactUpTo], by simp [Lib.compactUpTo]⟩
  | m + 1, hm => by
    obtain ⟨h1, h2, h3⟩ := comp_ok h m (by omega)
    have hle : ∀ j, j < m → zs.getD j 0 ≤ zs.getD m 0 := fun j hj => by
      have := List.pairwise_iff_getElem.1 h j m (by omega) (by omega) hj
      simpa [List.getD_eq_getElem?_getD, show j < zs.length by omega, show m < zs.length by omega] using this
    rw [Lib.compactUpTo_succ, getB]
    by_cases hk : Lib.keeps zs.toArray m = true
    · rw [if_pos hk]
      have hlt : ∀ x ∈ Lib.compactUpTo zs.toArray m, x < zs.getD m 0 := fun x hx => by
        obtain ⟨h0, h4⟩ := h3 x hx
        unfold Lib.keeps at hk
        have hk' := of_decide_eq_true hk
        rw [getB, getB] at hk'
        have h5 := hle (m - 1) (by omega)
        have h6 := hk'.resolve_left (by omega)
        omega
      refine ⟨List.pairwise_append.2 ⟨h1, by simp, fun a ha b hb => by simp at hb; subst hb; exact hlt a ha⟩, fun x => ?_, fun x hx => ?_⟩
      · rw [List.mem_append, h2]
        constructor
        · rintro (⟨j, hj, e⟩ | e)
          · exact ⟨j, by omega, e⟩
          · exact ⟨m, by omega, by simpa using e⟩
        · rintro ⟨j, hj, e⟩
          by_cases hj' : j < m
          · exact .inl ⟨j, hj', e⟩
          · obtain rfl : j = m := by omega
            exact .inr (by simpa using e)
      · rw [Nat.add_sub_cancel]
        rcases List.mem_append.1 hx with e | e
        · exact ⟨by omega, by have := hlt x e; omega⟩
        · exact ⟨by omega, Int.le_of_eq (List.mem_singleton.1 e)⟩
    · rw [if_neg hk, List.append_nil]
      have hk2 : ¬ (m = 0 ∨ zs.toArray[m]! ≠ zs.toArray[m - 1]!) := fun h => hk (decide_eq_true h)
      rw [getB, getB] at hk2
      have hm0 : 0 < m := Nat.pos_of_ne_zero fun h => hk2 (.inl h)
      have he : zs.getD m 0 = zs.getD (m - 1) 0 := by
        by_cases h : zs.getD m 0 = zs.getD (m - 1) 0
        · exact h
        · exact absurd (.inr h) hk2
      refine ⟨h1, fun x => ?_, fun x hx => ?_⟩
      · rw [h2]
        constructor
        · rintro ⟨j, hj, e⟩
          exact ⟨j, by omega, e⟩
        · rintro ⟨j, hj, e⟩
          by_cases hj' : j < m
          · exact ⟨j, hj', e⟩
          · obtain rfl : j = m := by omega
            exact ⟨j - 1, by omega, by rw [e, he]⟩
      · rw [Nat.add_sub_cancel, he]
        exact ⟨by omega, (h3 x hx).2⟩
def sortL (zs : List Int) : List Int := zs.mergeSort fun x y => decide (x ≤ y)
theorem sortL_le (zs : List Int) : (sortL zs).Pairwise (· ≤ ·) := by
  have := List.pairwise_mergeSort (le := fun x y : Int => decide (x ≤ y)) (by intro a b c h1 h2; simp only [decide_eq_true_eq] at *; omega) (by intro a b; simp only [Bool.or_eq_true, decide_eq_true_eq]; omega) zs
  exact this.imp (by intro a b h; simpa using h)
theorem sortL_len (zs : List Int) : (sortL zs).length = zs.length := List.length_mergeSort _
theorem sortL_mem (zs : List Int) (x : Int) : x ∈ sortL zs ↔ x ∈ zs := List.mem_mergeSort
/-- Sorted, each once. -/
def uniqL (zs : List Int) : List Int := Lib.compact (sortL zs)
theorem uniqL_SL (zs : List Int) : SL (uniqL zs) := (comp_ok (sortL_le zs) _ (Nat.le_refl _)).1
theorem uniqL_mem (zs : List Int) (x : Int) : x ∈ uniqL zs ↔ x ∈ zs := by
  have h := (comp_ok (sortL_le zs) _ (Nat.le_refl _)).2.1 x
  unfold uniqL Lib.compact
  rw [h, ← sortL_mem zs x, List.mem_iff_getElem]
  constructor
  · rintro ⟨j, hj, e⟩
    exact ⟨j, hj, by rw [e]; simp [List.getD_eq_getElem?_getD, hj]⟩
  · rintro ⟨j, hj, e⟩
    exact ⟨j, hj, by rw [← e]; simp [List.getD_eq_getElem?_getD, hj]⟩
theorem uniqL_len (zs : List Int) : (uniqL zs).length ≤ zs.length := by
  unfold uniqL Lib.compact Lib.compactUpTo
  rw [List.length_map]
  refine Nat.le_trans (List.length_filter_le _ _) ?_
  simp [sortL_len]
/-- The place of x among ascending numbers: behind those less than it. -/
def posL (L : List Int) (x : Int) : Nat → Nat
  | 0 => 0
  | k + 1 => if posL L x k = k ∧ k < L.length ∧ L.getD k 0 < x then k + 1 else posL L x k
def putI (L : List Int) (x : Int) (k : Nat) : List Int := if k < L.length ∧ L.getD k 0 = x then L else L.take k ++ [x] ++ L.drop k
theorem putI_ok {L : List Int} {x : Int} {k : Nat} (h : SL L) (hk : k ≤ L.length) (h1 : ∀ j, j < k → L.getD j 0 < x) (h2 : k < L.length → x ≤ L.getD k 0) : SL (putI L x k) ∧ ∀ y, y ∈ putI L x k ↔ y = x ∨ y ∈ L := by
  unfold putI
  split
  · rename_i hh
    refine ⟨h, fun y => ⟨fun hy => .inr hy, fun hy => hy.elim (fun e => ?_) id⟩⟩
    subst e
    rw [← hh.2, List.getD_eq_getElem?_getD, List.getElem?_eq_getElem hh.1]
    exact List.getElem_mem _
  · rename_i hh
    have hg : ∀ j (hj : j < L.length), L.getD j 0 = L[j] := fun j hj => by simp [List.getD_eq_getElem?_getD, hj]
    have hp := List.pairwise_iff_getElem.1 h
    have ht : ∀ a ∈ L.take k, a < x := fun a ha => by
      obtain ⟨j, hj, rfl⟩ := List.mem_iff_getElem.1 ha
      rw [List.length_take] at hj
      have := h1 j (by omega)
      rw [hg j (by omega)] at this
      simpa using this
    have hd : ∀ b ∈ L.drop k, x < b := fun b hb => by
      obtain ⟨j, hj, rfl⟩ := List.mem_iff_getElem.1 hb
      rw [List.length_drop] at hj
      have h3 := h2 (by omega)
      have h4 : L.getD k 0 ≠ x := fun e => hh ⟨by omega, e⟩
      rw [hg k (by omega)] at h3 h4
      rw [List.getElem_drop]
      rcases Nat.eq_zero_or_pos j with e | e
      · subst e; simp only [Nat.add_zero]; omega
      · have := hp k (k + j) (by omega) (by omega) (by omega); omega
    refine ⟨?_, fun y => ?_⟩
    · rw [List.append_assoc]
      refine List.pairwise_append.2 ⟨h.sublist (List.take_sublist _ _), List.pairwise_append.2 ⟨by simp, h.sublist (List.drop_sublist _ _), fun a ha b hb => ?_⟩, fun a ha b hb => ?_⟩
      · simp at ha; subst ha; exact hd b hb
      · rcases List.mem_append.1 hb with e | e
        · simp at e; subst e; exact ht a ha
        · have := ht a ha; have := hd b e; omega
    · constructor
      · intro hy
        rcases List.mem_append.1 hy with hy | hy
        · rcases List.mem_append.1 hy with hy | hy
          · exact .inr (List.mem_of_mem_take hy)
          · exact .inl (by simpa using hy)
        · exact .inr (List.mem_of_mem_drop hy)
      · rintro (rfl | hy)
        · simp
        · rw [← List.take_append_drop k L] at hy
          rcases List.mem_append.1 hy with hy | hy
          · simp [hy]
          · simp [hy]
end Go.Proofs.YtjdlkgfelccicaaGreat
namespace Go.Proofs.YtjdlkgfelccicaaGreat
open Go.ChangeShapes Go.WideShapes Go.ChangeAt Go.RowKit
set_option linter.unusedVariables false
open Go.Sort in
theorem mk_put {w : World} {b off q : Nat} {d : Array Int} {os : Array Obj} (hb : b < w.heap.size) : Mk b (b + 1) w (grow (putRow (Value.int .i64) (Sort.ahead w q) b off d) os) := by
  refine ⟨rfl, rfl, rfl, by simp, fun k hk hr => ?_⟩
  rw [heap_grow_old _ _ (by simpa using hk)]
  show ((Sort.ahead w q).heap.modify b _)[k]? = _
  rw [Array.getElem?_modify, if_neg (by omega)]
  rfl
open Go.Sort in
theorem own_holds {w : World} {lo n b off : Nat} {zs : List Int} (h : Own .i64 w lo (some ⟨b, off, none⟩) n zs) (hn : 0 < n) : Holds (Value.int .i64) w b off zs.toArray ∧ lo ≤ b ∧ b < w.heap.size := by
  obtain ⟨b', off', e, hl, hb, hc⟩ := h.2 hn
  simp only [Option.some.injEq, Addr.mk.injEq, and_true] at e
  obtain ⟨rfl, rfl⟩ := e
  refine ⟨fun j hj => ?_, hl, hb⟩
  have hj' : j < n := by have := h.1; simp at hj; omega
  rw [getB]
  exact hc j hj'
open Go.Sort in
theorem holds_own {w : World} {lo b off m q : Nat} {d0 d : List Int} {os : Array Obj} (h : Holds (Value.int .i64) w b off d0.toArray) (hl : lo ≤ b) (hb : b < w.heap.size) (hs : d.length = d0.length) (R : List Int) (hR : ∀ j, j < R.length → R.getD j 0 = d.getD j 0) (hm : R.length = m) (hmd : m ≤ d.length) : Own .i64 (grow (putRow (Value.int .i64) (Sort.ahead w q) b off d.toArray) os) lo (some ⟨b, off, none⟩) m R := by
  refine ⟨hm, fun h0 => ⟨b, off, rfl, hl, by simp; omega, fun j hj => ?_⟩⟩
  have h1 := cell?_putRow (Value.int .i64) (Sort.ahead w q) b off d0.toArray d.toArray (holds_ahead _ w q b off _ h) (by simpa using hs) j (by simp; omega)
  have h2 : (putRow (Value.int .i64) (Sort.ahead w q) b off d.toArray).frozen? ⟨b, off + j, none⟩ = false := by
    rw [frozen?_putRow, frozen?_ahead]
    exact (h j (by simp; omega)).2
  refine ⟨?_, ?_⟩
  · rw [cell?_grow _ _ _ (by simpa using hb), h1, getB, ← hR j (by omega)]
  · rw [frozen?_grow _ _ _ (by simpa using hb)]
    exact h2
theorem implSort (a : Option Addr) (n c lo : Nat) (zs : List Int) (w : World) (h : Own .i64 w lo a n zs) (hn : n ≤ 1073741824) :
    Calls Tryz.prog 45 #[.slice a n c] w fun e w' => e = .returned (.tuple #[]) ∧ Own .i64 w' lo a n (sortL zs) ∧ Mk lo w.heap.size w w' := by
  rcases Nat.eq_zero_or_pos n with h0 | h0
  · subst h0
    obtain rfl : zs = [] := List.eq_nil_of_length_eq_zero h.1
    exact (Tryz.slices_Sort_int_none a c w).mono fun e w' ⟨p, q⟩ => by subst q; exact ⟨p, ⟨by simp [sortL], fun h => absurd h (by omega)⟩, Mk.refl _ _ _⟩
  · obtain ⟨b, off, rfl, _⟩ := h.2 h0
    obtain ⟨hH, hl, hb⟩ := own_holds h h0
    have hc := Tryz.slices_Sort_int b off c zs w hH hb (by have := h.1; omega)
    rw [h.1] at hc
    refine hc.mono fun e w' ⟨p, q, os, hw⟩ => ?_
    subst hw
    exact ⟨p, holds_own hH hl hb (sortL_len zs) _ (fun j hj => rfl) (by rw [sortL_len, h.1]) (by rw [sortL_len, h.1]; exact Nat.le_refl _), (mk_put hb).wide (.inr ⟨hl, by omega⟩)⟩
theorem implCompact (a : Option Addr) (n c lo : Nat) (zs : List Int) (w : World) (h : Own .i64 w lo a n zs) (hn : n ≤ 1073741824) (hc : n ≤ c) :
    Calls Tryz.prog 46 #[.slice a n c] w fun e w' => e = .returned (.slice a (Lib.compact zs).length c) ∧ Own .i64 w' lo a (Lib.compact zs).length (Lib.compact zs) ∧ Mk lo w.heap.size w w' := by
  rcases Nat.eq_zero_or_pos n with h0 | h0
  · subst h0
    obtain rfl : zs = [] := List.eq_nil_of_length_eq_zero h.1
    exact (Tryz.slices_Compact_int_empty a c w).mono fun e w' ⟨p, q⟩ => by subst q; exact ⟨p, ⟨rfl, fun h => absurd h (by show ¬ 0 < 0; omega)⟩, Mk.refl _ _ _⟩
  · obtain ⟨b, off, rfl, _⟩ := h.2 h0
    obtain ⟨hH, hl, hb⟩ := own_holds h h0
    have hq := Tryz.slices_Compact_int b off c zs w hH (by have := h.1; omega) (by have := h.1; omega)
    rw [h.1] at hq
    have hle : (Lib.compact zs).length ≤ zs.length := by
      unfold Lib.compact Lib.compactUpTo
      rw [List.length_map]
      exact Nat.le_trans (List.length_filter_le _ _) (by simp)
    refine hq.mono fun e w' ⟨p, q, hw⟩ => ?_
    subst hw
    have := holds_own (q := q) (os := #[]) (lo := lo) (d := Lib.compact zs ++ List.replicate (n - (Lib.compact zs).length) 0) hH hl hb (by rw [List.length_append, List.length_replicate]; have := h.1; omega) (Lib.compact zs) (fun j hj => by rw [List.getD_eq_getElem?_getD, List.getD_eq_getElem?_getD, List.getElem?_append_left hj]) rfl (by rw [List.length_append]; omega)
    have hm := mk_put (q := q) (off := off) (d := (Lib.compact zs ++ List.replicate (n - (Lib.compact zs).length) 0).toArray) (os := #[]) hb
    rw [Sort.grow_empty] at this hm
    exact ⟨p, this, hm.wide (.inr ⟨hl, by omega⟩)⟩
end Go.Proofs.YtjdlkgfelccicaaGreat
namespace Go.Proofs.YtjdlkgfelccicaaGreat
set_option linter.unusedVariables false
theorem SL_nodup {L : List Int} (h : SL L) : L.Nodup := List.Pairwise.imp (fun h e => by omega) h
theorem sub_len : ∀ {L M : List Int}, L.Nodup → (∀ x ∈ L, x ∈ M) → L.length ≤ M.length
  | [], M, _, _ => Nat.zero_le _
  | x :: L, M, hn, hs => by
    have hn' := List.nodup_cons.1 hn
    have hx : x ∈ M := hs x (by simp)
    have h1 := sub_len (M := M.erase x) hn'.2 (fun y hy => by
      have hne : y ≠ x := fun e => hn'.1 (e ▸ hy)
      exact (List.mem_erase_of_ne hne).2 (hs y (List.mem_cons_of_mem _ hy)))
    rw [List.length_erase_of_mem hx] at h1
    have h2 : 0 < M.length := List.length_pos_of_mem hx
    simp only [List.length_cons]
    omega
def diffB (zs : List Int) : Bool := ((uniqL zs).length : Int) == (zs.length : Int)
def hasF (zs : List Int) (x : Int) : Nat → Bool
  | 0 => false
  | k + 1 => hasF zs x k || (zs.getD k 0 == x)
theorem hasF_stop {zs : List Int} {x : Int} {j : Nat} (h : zs.getD j 0 = x) : ∀ n, j < n → hasF zs x n = true
  | 0, hk => absurd hk (by omega)
  | n + 1, hk => by
    rw [hasF]
    by_cases e : j = n
    · subst e; rw [h]; simp
    · rw [hasF_stop h n (by omega)]; rfl
theorem hasF_mem {zs : List Int} {x : Int} : ∀ k, hasF zs x k = true → ∃ j, j < k ∧ zs.getD j 0 = x
  | 0, h => by cases h
  | k + 1, h => by
    rw [hasF, Bool.or_eq_true] at h
    rcases h with h | h
    · obtain ⟨j, hj, e⟩ := hasF_mem k h; exact ⟨j, by omega, e⟩
    · exact ⟨k, by omega, by simpa using h⟩
theorem getD_at {zs : List Int} {i : Nat} (h : i < zs.length) : zs.getD i 0 = zs[i] := by
  rw [List.getD_eq_getElem?_getD, List.getElem?_eq_getElem h]; rfl
theorem diff_hit {zs : List Int} {i : Nat} (hi : i < zs.length) (h : hasF zs (zs.getD i 0) i = true) : diffB zs = false := by
  obtain ⟨j, hj, e⟩ := hasF_mem _ h
  have hs : ∀ x ∈ uniqL zs, x ∈ zs.eraseIdx i := fun x hx => by
    have hx' := (uniqL_mem zs x).1 hx
    obtain ⟨m, hm, rfl⟩ := List.getElem_of_mem hx'
    rw [List.mem_eraseIdx_iff_getElem]
    by_cases hmi : m = i
    · subst hmi
      exact ⟨j, by omega, by omega, by rw [getD_at hi, getD_at (by omega)] at e; exact e⟩
    · exact ⟨m, hm, hmi, rfl⟩
  have h1 := sub_len (SL_nodup (uniqL_SL zs)) hs
  rw [List.length_eraseIdx_of_lt hi] at h1
  unfold diffB
  simp only [beq_eq_false_iff_ne, ne_eq]
  omega
theorem diff_no {zs : List Int} (h : ∀ i, i < zs.length → hasF zs (zs.getD i 0) i = false) : diffB zs = true := by
  have hn : zs.Nodup := by
    rw [List.Nodup, List.pairwise_iff_getElem]
    intro i j hi hj hij e
    have h1 := h j hj
    rw [hasF_stop (j := i) (by rw [getD_at hi, getD_at hj]; exact e) j hij] at h1
    cases h1
  have h1 := sub_len hn (fun x hx => (uniqL_mem zs x).2 hx)
  have h2 := uniqL_len zs
  unfold diffB
  simp only [beq_iff_eq]
  omega
end Go.Proofs.YtjdlkgfelccicaaGreat
namespace Go.Proofs.YtjdlkgfelccicaaGreat
open Go.ChangeShapes Go.WideShapes Go.ChangeAt Go.RowKit
set_option linter.unusedVariables false
def ifN (r q : Int) : Int := wrap64 (wrap64 (8 * r) + q)
def endA (y : TStep) : List Int := if y.ing = 0 then [] else [ifN y.nd y.ing]
def endB (y : TStep) : List Int := if y.eg = 0 then [] else [ifN y.nd y.eg]
def endsN (y : TStep) : Nat → List Int
  | 0 => []
  | 1 => endA y
  | _ => endA y ++ endB y
def usedUp (l : List TStep) : Nat → List Int
  | 0 => []
  | k + 1 => usedUp l k ++ (endA (l.getD k default) ++ endB (l.getD k default))
theorem endA_len (y : TStep) : (endA y).length ≤ 1 := by unfold endA; split <;> simp
theorem endB_len (y : TStep) : (endB y).length ≤ 1 := by unfold endB; split <;> simp
theorem usedUp_len (l : List TStep) : ∀ k, (usedUp l k).length ≤ 2 * k
  | 0 => by simp [usedUp]
  | k + 1 => by
    have h0 := usedUp_len l k
    have h1 := endA_len (l.getD k default)
    have h2 := endB_len (l.getD k default)
    rw [usedUp, List.length_append, List.length_append]
    omega
def usedAll (ps : List TPathPart) (n : Nat) : List Int := usedUp (pathSt ps n) (pathSt ps n).length
/-- A call that hands back a new row of numbers that it owns whole. -/
def OutOwnI (e : TypeId) (w : World) (R : List Int) (en : Ending) (w' : World) : Prop :=
  ∃ v, en = .returned v ∧ w'.ownsRow w.heap.size e 1 v R.length (R.map (.int .i64)) ∧ Mk0 w w'
theorem OutOwnI.of {w w' : World} {R : List Int} {v : Value} {n : Nat} {e : TypeId} (h : w'.ownsRow w.heap.size e 1 v n (R.map (.int .i64))) (hb : Mk0 w w') : OutOwnI e w R (.returned v) w' := by
  have hl : n = R.length := by have := h.1; simp at this; omega
  subst hl
  exact ⟨v, rfl, h, hb⟩
theorem OutOwnI.r {e : TypeId} {w w' : World} {R : List Int} {en : Ending} (h : OutOwnI e w R en w') : OutR .i64 w R en w' := by
  obtain ⟨v, rfl, ho, hb⟩ := h
  exact OutR.of ho hb.below0
theorem own_empI (w : World) (e : TypeId) : (w.alloc (.cells #[] e)).ownsRow w.heap.size e 1 (.slice (some ⟨w.heap.size, 0, none⟩) 0 0) 0 (([] : List Int).map (.int .i64)) := own_lit w e [] (by simp)
set_option maxRecDepth 100000 in
set_option maxHeartbeats 4000000 in
theorem implIfN (r q : Int) (w : World) : Calls Tryz.prog 77 #[.int .i64 r, .int .i64 q] w fun e w' => e = .returned (.int .i64 (ifN r q)) ∧ w = w' := by
  go_enter Tryz.func77, Tryz.ntmps77
  go_wp2
  go_ret
  exact ⟨rfl, rfl⟩

set_option maxRecDepth 100000 in
set_option maxHeartbeats 4000000 in
theorem implEnds2 (y : TStep) (w : World) : Calls Tryz.prog 48 #[.agg #[.int .i64 y.nd, .int .i64 y.ing, .int .i64 y.eg]] w (OutOwnI 3 w (endA y ++ endB y)) := by
  obtain ⟨i0, hi, hz0, hz1, hz2⟩ := info_parts infoI64
  have hby : i0.bytes ≤ 8 := by rw [hz2]; decide
  have M0 := Mk.alloc w (Obj.cells #[Value.int .i64 y.nd, Value.int .i64 y.ing, Value.int .i64 y.eg] 92)
  have k0 : (w.alloc (Obj.cells #[Value.int .i64 y.nd, Value.int .i64 y.ing, Value.int .i64 y.eg] 92)).cell? ⟨w.heap.size, 0, none⟩ = some (.int .i64 y.nd) := by simp [go_sem]
  have k1 : (w.alloc (Obj.cells #[Value.int .i64 y.nd, Value.int .i64 y.ing, Value.int .i64 y.eg] 92)).cell? ⟨w.heap.size, 1, none⟩ = some (.int .i64 y.ing) := by simp [go_sem]
  have k2 : (w.alloc (Obj.cells #[Value.int .i64 y.nd, Value.int .i64 y.ing, Value.int .i64 y.eg] 92)).cell? ⟨w.heap.size, 2, none⟩ = some (.int .i64 y.eg) := by simp [go_sem]
  go_enter Tryz.func48, Tryz.ntmps48
  go_wp2_with fail
  have hl0 := own_empI (w.alloc (Obj.cells #[Value.int .i64 y.nd, Value.int .i64 y.ing, Value.int .i64 y.eg] 92)) 3
  have ML := Mk.alloc (w.alloc (Obj.cells #[Value.int .i64 y.nd, Value.int .i64 y.ing, Value.int .i64 y.eg] 92)) (.cells #[] 3)
  have hszl := M0.size
  go_loopw [3, 9] (fun v i wr => ∃ k : Nat, k ≤ 2 ∧ i = .int .i64 k ∧ wr.ownsRow (w.alloc (Obj.cells #[Value.int .i64 y.nd, Value.int .i64 y.ing, Value.int .i64 y.eg] 92)).heap.size 3 1 v (endsN y k).length ((endsN y k).map (.int .i64)) ∧ Mk0 (w.alloc (Obj.cells #[Value.int .i64 y.nd, Value.int .i64 y.ing, Value.int .i64 y.eg] 92)) wr) (fun _ i _ => 2 - (intOf i).toNat)
  case atStart => exact ⟨0, by omega, rfl, (by rw [World.size_alloc w] at hl0 ⊢; exact hl0), ML⟩
  case round =>
    clear hl0 ML
    obtain ⟨k, hk, rfl, hown, hM⟩ := hrel
    replace k0 := hM.cellAt k0
    replace k1 := hM.cellAt k1
    replace k2 := hM.cellAt k2
    have hlow := hM.size
    rcases (by omega : k = 0 ∨ k = 1 ∨ k = 2) with rfl | rfl | rfl
    · cases e : (y.ing == 0)
      · have HE := Lib.hid (show endsN y 1 = endsN y 0 ++ [ifN y.nd y.ing] from by exact (show endA y = [] ++ [ifN y.nd y.ing] by unfold endA; rw [if_neg (by simpa using e)]; rfl))
        have e' : (y.ing != 0) = true := by simp only [bne, e]; rfl
        clear e
        have hL : (endsN y 0).length ≤ 1 := by first | exact endA_len y | simp [endsN]
        obtain ⟨L, hLq⟩ : ∃ L, Hid (L = endsN y 0) := ⟨_, rfl⟩
        rw [← hLq.out] at hown hL HE
        have hn1 := has_new .i64 wr 3 (ifN y.nd y.ing)
        have MA := Mk.alloc wr (.cells #[.int .i64 (ifN y.nd y.ing)] 3)
        have ho' := own_keptR hown MA
        have hlo' := Nat.le_trans hlow MA.size
        go_wp2_with (first | (go_at_call 77; refine (implIfN _ _ _).mono ?_; rintro e w' ⟨rfl, rfl⟩) | (at_builtin; refine wpList_app rfl (.tmp 15) (.tmp 20) 49 rfl _ 3 i0 Tryz.underlying49 hi hz0 hz1 hby _ L L.length rfl ho' _ 1 1 [ifN y.nd y.ing] rfl (fun h => by cases h) hn1 (by omega) hlo' ?_; intro v2 w2 ho2 hg2 _))
        have M2 := (hM.trans MA).appR hg2 (fun g hg => (ho'.lt g hg).1)
        go_wp2_with fail
        go_roundw
        case rel => exact ⟨1, by omega, by first | rfl | go_num, by rw [HE.out, List.length_append]; exact ho2, M2⟩
        case measure => simp [intOf]
      · have HE := Lib.hid (show endsN y 1 = endsN y 0 from by exact (show endA y = [] by unfold endA; rw [if_pos (by simpa using e)]))
        have e' : (y.ing != 0) = false := by simp only [bne, e]; rfl
        clear e
        go_wp2_with fail
        go_roundw
        case rel => exact ⟨1, by omega, by first | rfl | go_num, by rw [HE.out]; exact hown, hM⟩
        case measure => simp [intOf]
    · cases e : (y.eg == 0)
      · have HE := Lib.hid (show endsN y 2 = endsN y 1 ++ [ifN y.nd y.eg] from by exact (show endA y ++ endB y = endA y ++ [ifN y.nd y.eg] by rw [show endB y = [ifN y.nd y.eg] from if_neg (by simpa using e)]))
        have e' : (y.eg != 0) = true := by simp only [bne, e]; rfl
        clear e
        have hL : (endsN y 1).length ≤ 1 := by first | exact endA_len y | simp [endsN]
        obtain ⟨L, hLq⟩ : ∃ L, Hid (L = endsN y 1) := ⟨_, rfl⟩
        rw [← hLq.out] at hown hL HE
        have hn1 := has_new .i64 wr 3 (ifN y.nd y.eg)
        have MA := Mk.alloc wr (.cells #[.int .i64 (ifN y.nd y.eg)] 3)
        have ho' := own_keptR hown MA
        have hlo' := Nat.le_trans hlow MA.size
        go_wp2_with (first | (go_at_call 77; refine (implIfN _ _ _).mono ?_; rintro e w' ⟨rfl, rfl⟩) | (at_builtin; refine wpList_app rfl (.tmp 15) (.tmp 20) 49 rfl _ 3 i0 Tryz.underlying49 hi hz0 hz1 hby _ L L.length rfl ho' _ 1 1 [ifN y.nd y.eg] rfl (fun h => by cases h) hn1 (by omega) hlo' ?_; intro v2 w2 ho2 hg2 _))
        have M2 := (hM.trans MA).appR hg2 (fun g hg => (ho'.lt g hg).1)
        go_wp2_with fail
        go_roundw
        case rel => exact ⟨2, by omega, by first | rfl | go_num, by rw [HE.out, List.length_append]; exact ho2, M2⟩
        case measure => simp [intOf]
      · have HE := Lib.hid (show endsN y 2 = endsN y 1 from by exact (show endA y ++ endB y = endA y by rw [show endB y = [] from if_pos (by simpa using e), List.append_nil]))
        have e' : (y.eg != 0) = false := by simp only [bne, e]; rfl
        clear e
        go_wp2_with fail
        go_roundw
        case rel => exact ⟨2, by omega, by first | rfl | go_num, by rw [HE.out]; exact hown, hM⟩
        case measure => simp [intOf]
    · go_wp2_with fail
      go_ret
      exact OutOwnI.of (R := endA y ++ endB y) (own_low hown hszl) (M0.trans hM)

set_option maxRecDepth 100000 in
set_option maxHeartbeats 4000000 in
theorem specUsed (a : Option Addr) (n c B : Nat) (ps : List TPathPart) (w : World) (h : HasPathPart w B a n ps) (hB : B ≤ w.heap.size) (hn : szPathPart ps n ≤ 1048576) :
    Calls Tryz.prog 19 #[.agg #[.slice a n c]] w (OutOwnI 3 w (usedAll ps n)) := by
  obtain ⟨i0, hi, hz0, hz1, hz2⟩ := info_parts infoI64
  have hby : i0.bytes ≤ 8 := by rw [hz2]; decide
  have M0 := Mk.alloc w (Obj.cells #[Value.slice a n c] 39)
  have hsz := Lib.hid (World.size_alloc w (Obj.cells #[Value.slice a n c] 39))
  have k0 : (w.alloc (Obj.cells #[Value.slice a n c] 39)).cell? ⟨w.heap.size, 0, none⟩ = some (.slice a n c) := by simp [go_sem]
  generalize hW1 : w.alloc (Obj.cells #[Value.slice a n c] 39) = W1 at *
  have k0' := (Mk.alloc W1 (.cells #[] 3)).cellAt k0
  go_enter Tryz.func19, Tryz.ntmps19
  go_wp2_with fail
  clear hW1 k0 k0'
  have hl0 := own_empI W1 3
  have ML := Mk.alloc W1 (.cells #[] 3)
  have M1 := M0.trans ML
  refine (specPathSteps a n c B ps _ (h.mk M1 hB (.inr (Nat.le_refl _))) (Nat.le_trans hB M1.size) hn).mono ?_
  rintro e w2 ⟨A, N, cc, rfl, hcc, oo, m2⟩
  have hNle : N ≤ 1048576 := by have := pathSt_le ps n; have := oo.1; omega
  have HR := Lib.hid (show usedAll ps n = usedUp (pathSt ps n) N by unfold usedAll; rw [oo.1])
  have hl2 := own_keptR hl0 m2
  have M2 := ML.trans m2
  obtain ⟨lo, hlo⟩ : ∃ lo, Hid (lo = (W1.alloc (.cells #[] 3)).heap.size) := ⟨_, rfl⟩
  rw [← hlo.out] at oo
  have hlo1 : lo = W1.heap.size + 1 := by rw [hlo.out, World.size_alloc]
  have hb0 : ∀ g, (Value.slice (some ⟨W1.heap.size, 0, none⟩) 0 0).ownBlock = some g → g < lo ∨ w2.heap.size ≤ g := fun g hg => .inl (by
    have : W1.heap.size = g := by simpa [Value.ownBlock] using hg
    omega)
  have HLO := Lib.hid hlo1
  clear hl0 ML M1 m2 hlo1 hlo
  go_wp2_with fail
  go_loopw [3, 5] (fun v i wr => ∃ k : Nat, k ≤ N ∧ i = .int .i64 k ∧ wr.ownsRow W1.heap.size 3 1 v (usedUp (pathSt ps n) k).length ((usedUp (pathSt ps n) k).map (.int .i64)) ∧ (∀ g, v.ownBlock = some g → g < lo ∨ w2.heap.size ≤ g) ∧ OwnStep wr lo w2.heap.size A N (pathSt ps n) ∧ Mk0 W1 wr ∧ w2.heap.size ≤ wr.heap.size) (fun _ i _ => N - (intOf i).toNat)
  case atStart => exact ⟨0, Nat.zero_le _, rfl, hl2, hb0, oo, M2, Nat.le_refl _⟩
  case round =>
    clear hl2 hb0 oo M2
    obtain ⟨k, hk, rfl, hown, hvb, oo, hM, hs2⟩ := hrel
    have HVB := Lib.hid hvb
    clear hvb
    have hul := usedUp_len (pathSt ps n) k
    by_cases hlt : k < N
    · obtain ⟨b, off, y, rfl, hb, hx, c0, c1, c2⟩ := HasStep.at _ _ _ _ _ _ oo.has hlt
      have hbr := World.block_lt_of_cell? _ _ c0
      simp only at hbr
      have i1 : (0 : Int) ≤ (k : Int) := by omega
      have i2 : (k : Int) < (N : Int) := by omega
      have hlow := hM.size
      have HE := Lib.hid (show usedUp (pathSt ps n) (k + 1) = usedUp (pathSt ps n) k ++ (endA y ++ endB y) by rw [usedUp, ← hx.out])
      obtain ⟨L, hLq⟩ : ∃ L, Hid (L = usedUp (pathSt ps n) k) := ⟨_, rfl⟩
      rw [← hLq.out] at hown hul HE
      cases e1 : (y.ing == 0)
      · have e1' : (y.ing != 0) = true := by simp only [bne, e1]; rfl
        have HA := Lib.hid (show endA y = [ifN y.nd y.ing] from if_neg (by simpa using e1))
        clear e1
        go_wp2_with fail
        refine wp_region_wkt (fun w' => Mk0 wr w' ∧ w'.cell? ⟨b, off + k * 3, none⟩ = some (.int .i64 y.nd) ∧ w'.cell? ⟨b, off + k * 3 + 1, none⟩ = some (.int .i64 y.ing) ∧ w'.cell? ⟨b, off + k * 3 + 2, none⟩ = some (.int .i64 y.eg)) 13 (by kernel_rfl) (by kernel_rfl) (by kernel_rfl) (by decide) (⟨Mk.drew1 _, c0, c1, c2⟩) ?_
        change WkT _ _ _ _ _ 13 0 _
        first | (refine WkT.skip (m := 12) (k := 0) rfl (by rfl) ?_) | (refine WkT.pure (m := 12) (k := 0) (v := _) rfl (by rfl) (fun wv => by go_simp; try with_reducible rfl) ?_) | (refine WkT.step (m := 12) (k := 0) (v := _) rfl (by rfl) (by kernel_rfl) (fun wv hS => by obtain ⟨s0, s1, s2, s3⟩ := hS; go_simp; try with_reducible rfl) ?_)
        try simp only [Act.put, List.getElem_toArray, List.getElem_cons_zero, List.setIfInBounds_toArray, List.set_cons_zero, List.set_cons_succ]
        first | (refine WkT.skip (m := 11) (k := 1) rfl (by rfl) ?_) | (refine WkT.pure (m := 11) (k := 1) (v := _) rfl (by rfl) (fun wv => by go_simp; try with_reducible rfl) ?_) | (refine WkT.step (m := 11) (k := 1) (v := _) rfl (by rfl) (by kernel_rfl) (fun wv hS => by obtain ⟨s0, s1, s2, s3⟩ := hS; go_simp; try with_reducible rfl) ?_)
        try simp only [Act.put, List.getElem_toArray, List.getElem_cons_succ, List.getElem_cons_zero, List.setIfInBounds_toArray, List.set_cons_zero, List.set_cons_succ]
        first | (refine WkT.skip (m := 10) (k := 2) rfl (by rfl) ?_) | (refine WkT.pure (m := 10) (k := 2) (v := _) rfl (by rfl) (fun wv => by go_simp; try with_reducible rfl) ?_) | (refine WkT.step (m := 10) (k := 2) (v := _) rfl (by rfl) (by kernel_rfl) (fun wv hS => by obtain ⟨s0, s1, s2, s3⟩ := hS; go_simp; try with_reducible rfl) ?_)
        try simp only [Act.put, List.getElem_toArray, List.getElem_cons_succ, List.getElem_cons_zero, List.setIfInBounds_toArray, List.set_cons_zero, List.set_cons_succ]
        first | (refine WkT.skip (m := 9) (k := 3) rfl (by rfl) ?_) | (refine WkT.pure (m := 9) (k := 3) (v := _) rfl (by rfl) (fun wv => by go_simp; try with_reducible rfl) ?_) | (refine WkT.step (m := 9) (k := 3) (v := _) rfl (by rfl) (by kernel_rfl) (fun wv hS => by obtain ⟨s0, s1, s2, s3⟩ := hS; go_simp; try with_reducible rfl) ?_)
        try simp only [Act.put, List.getElem_toArray, List.getElem_cons_succ, List.getElem_cons_zero, List.setIfInBounds_toArray, List.set_cons_zero, List.set_cons_succ]
        first | (refine WkT.skip (m := 8) (k := 4) rfl (by rfl) ?_) | (refine WkT.pure (m := 8) (k := 4) (v := _) rfl (by rfl) (fun wv => by go_simp; try with_reducible rfl) ?_) | (refine WkT.step (m := 8) (k := 4) (v := _) rfl (by rfl) (by kernel_rfl) (fun wv hS => by obtain ⟨s0, s1, s2, s3⟩ := hS; go_simp; try with_reducible rfl) ?_)
        try simp only [Act.put, List.getElem_toArray, List.getElem_cons_succ, List.getElem_cons_zero, List.setIfInBounds_toArray, List.set_cons_zero, List.set_cons_succ]
        first | (refine WkT.skip (m := 7) (k := 5) rfl (by rfl) ?_) | (refine WkT.pure (m := 7) (k := 5) (v := _) rfl (by rfl) (fun wv => by go_simp; try with_reducible rfl) ?_) | (refine WkT.step (m := 7) (k := 5) (v := _) rfl (by rfl) (by kernel_rfl) (fun wv hS => by obtain ⟨s0, s1, s2, s3⟩ := hS; go_simp; try with_reducible rfl) ?_)
        try simp only [Act.put, List.getElem_toArray, List.getElem_cons_succ, List.getElem_cons_zero, List.setIfInBounds_toArray, List.set_cons_zero, List.set_cons_succ]
        first | (refine WkT.skip (m := 6) (k := 6) rfl (by rfl) ?_) | (refine WkT.pure (m := 6) (k := 6) (v := _) rfl (by rfl) (fun wv => by go_simp; try with_reducible rfl) ?_) | (refine WkT.step (m := 6) (k := 6) (v := _) rfl (by rfl) (by kernel_rfl) (fun wv hS => by obtain ⟨s0, s1, s2, s3⟩ := hS; go_simp; try with_reducible rfl) ?_)
        try simp only [Act.put, List.getElem_toArray, List.getElem_cons_succ, List.getElem_cons_zero, List.setIfInBounds_toArray, List.set_cons_zero, List.set_cons_succ]
        first | (refine WkT.skip (m := 5) (k := 7) rfl (by rfl) ?_) | (refine WkT.pure (m := 5) (k := 7) (v := _) rfl (by rfl) (fun wv => by go_simp; try with_reducible rfl) ?_) | (refine WkT.step (m := 5) (k := 7) (v := _) rfl (by rfl) (by kernel_rfl) (fun wv hS => by obtain ⟨s0, s1, s2, s3⟩ := hS; go_simp; try with_reducible rfl) ?_)
        try simp only [Act.put, List.getElem_toArray, List.getElem_cons_succ, List.getElem_cons_zero, List.setIfInBounds_toArray, List.set_cons_zero, List.set_cons_succ]
        first | (refine WkT.skip (m := 4) (k := 8) rfl (by rfl) ?_) | (refine WkT.pure (m := 4) (k := 8) (v := _) rfl (by rfl) (fun wv => by go_simp; try with_reducible rfl) ?_) | (refine WkT.step (m := 4) (k := 8) (v := _) rfl (by rfl) (by kernel_rfl) (fun wv hS => by obtain ⟨s0, s1, s2, s3⟩ := hS; go_simp; try with_reducible rfl) ?_)
        try simp only [Act.put, List.getElem_toArray, List.getElem_cons_succ, List.getElem_cons_zero, List.setIfInBounds_toArray, List.set_cons_zero, List.set_cons_succ]
        first | (refine WkT.skip (m := 3) (k := 9) rfl (by rfl) ?_) | (refine WkT.pure (m := 3) (k := 9) (v := _) rfl (by rfl) (fun wv => by go_simp; try with_reducible rfl) ?_) | (refine WkT.step (m := 3) (k := 9) (v := _) rfl (by rfl) (by kernel_rfl) (fun wv hS => by obtain ⟨s0, s1, s2, s3⟩ := hS; go_simp; try with_reducible rfl) ?_)
        try simp only [Act.put, List.getElem_toArray, List.getElem_cons_succ, List.getElem_cons_zero, List.setIfInBounds_toArray, List.set_cons_zero, List.set_cons_succ]
        first | (refine WkT.skip (m := 2) (k := 10) rfl (by rfl) ?_) | (refine WkT.pure (m := 2) (k := 10) (v := _) rfl (by rfl) (fun wv => by go_simp; try with_reducible rfl) ?_) | (refine WkT.step (m := 2) (k := 10) (v := _) rfl (by rfl) (by kernel_rfl) (fun wv hS => by obtain ⟨s0, s1, s2, s3⟩ := hS; go_simp; try with_reducible rfl) ?_)
        try simp only [Act.put, List.getElem_toArray, List.getElem_cons_succ, List.getElem_cons_zero, List.setIfInBounds_toArray, List.set_cons_zero, List.set_cons_succ]
        first | (refine WkT.skip (m := 1) (k := 11) rfl (by rfl) ?_) | (refine WkT.pure (m := 1) (k := 11) (v := _) rfl (by rfl) (fun wv => by go_simp; try with_reducible rfl) ?_) | (refine WkT.step (m := 1) (k := 11) (v := _) rfl (by rfl) (by kernel_rfl) (fun wv hS => by obtain ⟨s0, s1, s2, s3⟩ := hS; go_simp; try with_reducible rfl) ?_)
        try simp only [Act.put, List.getElem_toArray, List.getElem_cons_succ, List.getElem_cons_zero, List.setIfInBounds_toArray, List.set_cons_zero, List.set_cons_succ]
        first | (refine WkT.skip (m := 0) (k := 12) rfl (by rfl) ?_) | (refine WkT.pure (m := 0) (k := 12) (v := _) rfl (by rfl) (fun wv => by go_simp; try with_reducible rfl) ?_) | (refine WkT.step (m := 0) (k := 12) (v := _) rfl (by rfl) (by kernel_rfl) (fun wv hS => by obtain ⟨s0, s1, s2, s3⟩ := hS; go_simp; try with_reducible rfl) ?_)
        try simp only [Act.put, List.getElem_toArray, List.getElem_cons_succ, List.getElem_cons_zero, List.setIfInBounds_toArray, List.set_cons_zero, List.set_cons_succ]
        refine WkT.done fun wE hE => ?_
        obtain ⟨mE, c0, c1, c2⟩ := hE
        simp only [List.drop_succ_cons, List.drop_zero]
        have M3 := mE
        have MA := Mk.alloc wE (.cells #[.int .i64 (ifN y.nd y.ing)] 3)
        have hn1 := has_new .i64 wE 3 (ifN y.nd y.ing)
        have ho3 := own_keptR (own_keptR hown mE) MA
        have hlo3 := Nat.le_trans (Nat.le_trans hlow mE.size) MA.size
        have oo3 := (oo.mk mE hs2 (.inr (.inr (Nat.le_refl _)))).mk MA (Nat.le_trans hs2 mE.size) (.inr (.inr (Nat.le_refl _)))
        go_wp2_with (at_builtin; refine wpList_app rfl (.tmp 21) (.tmp 34) 49 rfl W1.heap.size 3 i0 Tryz.underlying49 hi hz0 hz1 hby _ L (L).length rfl ho3 _ 1 1 [ifN y.nd y.ing] rfl (fun h => by cases h) hn1 (by first | omega | (rw [List.length_append]; simp; omega)) hlo3 ?_; intro v2 w4 ho2 hg2 hvb2)
        have hMn := ((hM.trans mE).trans MA).appR hg2 (fun g hg => (ho3.lt g hg).1)
        have oon := oo3.grown hg2 (fun g hg => HVB.out g hg) (Nat.le_trans (Nat.le_trans hs2 mE.size) MA.size)
        have hsn := Nat.le_trans (Nat.le_trans (Nat.le_trans hs2 mE.size) MA.size) hg2.size
        have hvn : ∀ g, v2.ownBlock = some g → g < lo ∨ w2.heap.size ≤ g := fun g hg => by
          rcases hvb2 with hv | hv
          · exact HVB.out g (hv ▸ hg)
          · rw [hv, World.size_alloc] at hg; injection hg with hg; have := Nat.le_trans hs2 mE.size; omega
        replace HVB := Lib.hid hvn
        have hLn : (L ++ [ifN y.nd y.ing]).length = (L).length + 1 := by simp
        rw [← hLn] at ho2
        have HLn := Lib.hid hLn
        clear hvn hLn ho3 hlo3 oo3 hvb2
        obtain ⟨b9, off9, y9, eb9, _, hx9, g0, g1, g2⟩ := HasStep.at _ _ _ _ _ _ oon.has hlt
        simp only [Option.some.injEq, Addr.mk.injEq, and_true] at eb9
        obtain ⟨rfl, rfl⟩ := eb9
        obtain rfl : y = y9 := hx.out.trans hx9.out.symm
        have hlown := hMn.size
        clear hg2 hn1 MA M3 mE c0 c1 c2 hown hM oo hs2 hlow hbr
        go_wp2_with fail
        simp only [noPan]
        have c0 := g0
        have c1 := g1
        have c2 := g2
        have hown := ho2
        have hM := hMn
        have oo := oon
        have hs2 := hsn
        have hlow := hlown
        clear g0 g1 g2 ho2 hMn oon hsn hlown
        have hbr := World.block_lt_of_cell? _ _ c0
        simp only at hbr
        cases e2 : (y.eg == 0)
        · have e2' : (y.eg != 0) = true := by simp only [bne, e2]; rfl
          have HBq := Lib.hid (show endB y = [ifN y.nd y.eg] from if_neg (by simpa using e2))
          clear e2
          go_wp2_with fail
          refine wp_region_wkt (fun w' => Mk0 w4 w' ∧ w'.cell? ⟨b, off + k * 3, none⟩ = some (.int .i64 y.nd) ∧ w'.cell? ⟨b, off + k * 3 + 1, none⟩ = some (.int .i64 y.ing) ∧ w'.cell? ⟨b, off + k * 3 + 2, none⟩ = some (.int .i64 y.eg)) 13 (by kernel_rfl) (by kernel_rfl) (by kernel_rfl) (by decide) (⟨Mk.drew1 _, c0, c1, c2⟩) ?_
          change WkT _ _ _ _ _ 13 0 _
          first | (refine WkT.skip (m := 12) (k := 0) rfl (by rfl) ?_) | (refine WkT.pure (m := 12) (k := 0) (v := _) rfl (by rfl) (fun wv => by go_simp; try with_reducible rfl) ?_) | (refine WkT.step (m := 12) (k := 0) (v := _) rfl (by rfl) (by kernel_rfl) (fun wv hS => by obtain ⟨s0, s1, s2, s3⟩ := hS; go_simp; try with_reducible rfl) ?_)
          try simp only [Act.put, List.getElem_toArray, List.getElem_cons_zero, List.setIfInBounds_toArray, List.set_cons_zero, List.set_cons_succ]
          first | (refine WkT.skip (m := 11) (k := 1) rfl (by rfl) ?_) | (refine WkT.pure (m := 11) (k := 1) (v := _) rfl (by rfl) (fun wv => by go_simp; try with_reducible rfl) ?_) | (refine WkT.step (m := 11) (k := 1) (v := _) rfl (by rfl) (by kernel_rfl) (fun wv hS => by obtain ⟨s0, s1, s2, s3⟩ := hS; go_simp; try with_reducible rfl) ?_)
          try simp only [Act.put, List.getElem_toArray, List.getElem_cons_succ, List.getElem_cons_zero, List.setIfInBounds_toArray, List.set_cons_zero, List.set_cons_succ]
          first | (refine WkT.skip (m := 10) (k := 2) rfl (by rfl) ?_) | (refine WkT.pure (m := 10) (k := 2) (v := _) rfl (by rfl) (fun wv => by go_simp; try with_reducible rfl) ?_) | (refine WkT.step (m := 10) (k := 2) (v := _) rfl (by rfl) (by kernel_rfl) (fun wv hS => by obtain ⟨s0, s1, s2, s3⟩ := hS; go_simp; try with_reducible rfl) ?_)
          try simp only [Act.put, List.getElem_toArray, List.getElem_cons_succ, List.getElem_cons_zero, List.setIfInBounds_toArray, List.set_cons_zero, List.set_cons_succ]
          first | (refine WkT.skip (m := 9) (k := 3) rfl (by rfl) ?_) | (refine WkT.pure (m := 9) (k := 3) (v := _) rfl (by rfl) (fun wv => by go_simp; try with_reducible rfl) ?_) | (refine WkT.step (m := 9) (k := 3) (v := _) rfl (by rfl) (by kernel_rfl) (fun wv hS => by obtain ⟨s0, s1, s2, s3⟩ := hS; go_simp; try with_reducible rfl) ?_)
          try simp only [Act.put, List.getElem_toArray, List.getElem_cons_succ, List.getElem_cons_zero, List.setIfInBounds_toArray, List.set_cons_zero, List.set_cons_succ]
          first | (refine WkT.skip (m := 8) (k := 4) rfl (by rfl) ?_) | (refine WkT.pure (m := 8) (k := 4) (v := _) rfl (by rfl) (fun wv => by go_simp; try with_reducible rfl) ?_) | (refine WkT.step (m := 8) (k := 4) (v := _) rfl (by rfl) (by kernel_rfl) (fun wv hS => by obtain ⟨s0, s1, s2, s3⟩ := hS; go_simp; try with_reducible rfl) ?_)
          try simp only [Act.put, List.getElem_toArray, List.getElem_cons_succ, List.getElem_cons_zero, List.setIfInBounds_toArray, List.set_cons_zero, List.set_cons_succ]
          first | (refine WkT.skip (m := 7) (k := 5) rfl (by rfl) ?_) | (refine WkT.pure (m := 7) (k := 5) (v := _) rfl (by rfl) (fun wv => by go_simp; try with_reducible rfl) ?_) | (refine WkT.step (m := 7) (k := 5) (v := _) rfl (by rfl) (by kernel_rfl) (fun wv hS => by obtain ⟨s0, s1, s2, s3⟩ := hS; go_simp; try with_reducible rfl) ?_)
          try simp only [Act.put, List.getElem_toArray, List.getElem_cons_succ, List.getElem_cons_zero, List.setIfInBounds_toArray, List.set_cons_zero, List.set_cons_succ]
          first | (refine WkT.skip (m := 6) (k := 6) rfl (by rfl) ?_) | (refine WkT.pure (m := 6) (k := 6) (v := _) rfl (by rfl) (fun wv => by go_simp; try with_reducible rfl) ?_) | (refine WkT.step (m := 6) (k := 6) (v := _) rfl (by rfl) (by kernel_rfl) (fun wv hS => by obtain ⟨s0, s1, s2, s3⟩ := hS; go_simp; try with_reducible rfl) ?_)
          try simp only [Act.put, List.getElem_toArray, List.getElem_cons_succ, List.getElem_cons_zero, List.setIfInBounds_toArray, List.set_cons_zero, List.set_cons_succ]
          first | (refine WkT.skip (m := 5) (k := 7) rfl (by rfl) ?_) | (refine WkT.pure (m := 5) (k := 7) (v := _) rfl (by rfl) (fun wv => by go_simp; try with_reducible rfl) ?_) | (refine WkT.step (m := 5) (k := 7) (v := _) rfl (by rfl) (by kernel_rfl) (fun wv hS => by obtain ⟨s0, s1, s2, s3⟩ := hS; go_simp; try with_reducible rfl) ?_)
          try simp only [Act.put, List.getElem_toArray, List.getElem_cons_succ, List.getElem_cons_zero, List.setIfInBounds_toArray, List.set_cons_zero, List.set_cons_succ]
          first | (refine WkT.skip (m := 4) (k := 8) rfl (by rfl) ?_) | (refine WkT.pure (m := 4) (k := 8) (v := _) rfl (by rfl) (fun wv => by go_simp; try with_reducible rfl) ?_) | (refine WkT.step (m := 4) (k := 8) (v := _) rfl (by rfl) (by kernel_rfl) (fun wv hS => by obtain ⟨s0, s1, s2, s3⟩ := hS; go_simp; try with_reducible rfl) ?_)
          try simp only [Act.put, List.getElem_toArray, List.getElem_cons_succ, List.getElem_cons_zero, List.setIfInBounds_toArray, List.set_cons_zero, List.set_cons_succ]
          first | (refine WkT.skip (m := 3) (k := 9) rfl (by rfl) ?_) | (refine WkT.pure (m := 3) (k := 9) (v := _) rfl (by rfl) (fun wv => by go_simp; try with_reducible rfl) ?_) | (refine WkT.step (m := 3) (k := 9) (v := _) rfl (by rfl) (by kernel_rfl) (fun wv hS => by obtain ⟨s0, s1, s2, s3⟩ := hS; go_simp; try with_reducible rfl) ?_)
          try simp only [Act.put, List.getElem_toArray, List.getElem_cons_succ, List.getElem_cons_zero, List.setIfInBounds_toArray, List.set_cons_zero, List.set_cons_succ]
          first | (refine WkT.skip (m := 2) (k := 10) rfl (by rfl) ?_) | (refine WkT.pure (m := 2) (k := 10) (v := _) rfl (by rfl) (fun wv => by go_simp; try with_reducible rfl) ?_) | (refine WkT.step (m := 2) (k := 10) (v := _) rfl (by rfl) (by kernel_rfl) (fun wv hS => by obtain ⟨s0, s1, s2, s3⟩ := hS; go_simp; try with_reducible rfl) ?_)
          try simp only [Act.put, List.getElem_toArray, List.getElem_cons_succ, List.getElem_cons_zero, List.setIfInBounds_toArray, List.set_cons_zero, List.set_cons_succ]
          first | (refine WkT.skip (m := 1) (k := 11) rfl (by rfl) ?_) | (refine WkT.pure (m := 1) (k := 11) (v := _) rfl (by rfl) (fun wv => by go_simp; try with_reducible rfl) ?_) | (refine WkT.step (m := 1) (k := 11) (v := _) rfl (by rfl) (by kernel_rfl) (fun wv hS => by obtain ⟨s0, s1, s2, s3⟩ := hS; go_simp; try with_reducible rfl) ?_)
          try simp only [Act.put, List.getElem_toArray, List.getElem_cons_succ, List.getElem_cons_zero, List.setIfInBounds_toArray, List.set_cons_zero, List.set_cons_succ]
          first | (refine WkT.skip (m := 0) (k := 12) rfl (by rfl) ?_) | (refine WkT.pure (m := 0) (k := 12) (v := _) rfl (by rfl) (fun wv => by go_simp; try with_reducible rfl) ?_) | (refine WkT.step (m := 0) (k := 12) (v := _) rfl (by rfl) (by kernel_rfl) (fun wv hS => by obtain ⟨s0, s1, s2, s3⟩ := hS; go_simp; try with_reducible rfl) ?_)
          try simp only [Act.put, List.getElem_toArray, List.getElem_cons_succ, List.getElem_cons_zero, List.setIfInBounds_toArray, List.set_cons_zero, List.set_cons_succ]
          refine WkT.done fun wE hE => ?_
          obtain ⟨mE, c0, c1, c2⟩ := hE
          simp only [List.drop_succ_cons, List.drop_zero]
          have M3 := mE
          have MA := Mk.alloc wE (.cells #[.int .i64 (ifN y.nd y.eg)] 3)
          have hn1 := has_new .i64 wE 3 (ifN y.nd y.eg)
          have ho3 := own_keptR (own_keptR hown mE) MA
          have hlo3 := Nat.le_trans (Nat.le_trans hlow mE.size) MA.size
          have oo3 := (oo.mk mE hs2 (.inr (.inr (Nat.le_refl _)))).mk MA (Nat.le_trans hs2 mE.size) (.inr (.inr (Nat.le_refl _)))
          go_wp2_with (at_builtin; refine wpList_app rfl (.tmp 42) (.tmp 55) 49 rfl W1.heap.size 3 i0 Tryz.underlying49 hi hz0 hz1 hby _ (L ++ [ifN y.nd y.ing]) ((L ++ [ifN y.nd y.ing])).length rfl ho3 _ 1 1 [ifN y.nd y.eg] rfl (fun h => by cases h) hn1 (by first | omega | (rw [List.length_append]; simp; omega)) hlo3 ?_; intro v2 w4 ho2 hg2 hvb2)
          have hMn := ((hM.trans mE).trans MA).appR hg2 (fun g hg => (ho3.lt g hg).1)
          have oon := oo3.grown hg2 (fun g hg => HVB.out g hg) (Nat.le_trans (Nat.le_trans hs2 mE.size) MA.size)
          have hsn := Nat.le_trans (Nat.le_trans (Nat.le_trans hs2 mE.size) MA.size) hg2.size
          have hvn : ∀ g, v2.ownBlock = some g → g < lo ∨ w2.heap.size ≤ g := fun g hg => by
            rcases hvb2 with hv | hv
            · exact HVB.out g (hv ▸ hg)
            · rw [hv, World.size_alloc] at hg; injection hg with hg; have := Nat.le_trans hs2 mE.size; omega
          replace HVB := Lib.hid hvn
          have hLn : ((L ++ [ifN y.nd y.ing]) ++ [ifN y.nd y.eg]).length = ((L ++ [ifN y.nd y.ing])).length + 1 := by simp
          rw [← hLn] at ho2
          have HLn := Lib.hid hLn
          clear hvn hLn ho3 hlo3 oo3 hvb2
          obtain ⟨b9, off9, y9, eb9, _, hx9, g0, g1, g2⟩ := HasStep.at _ _ _ _ _ _ oon.has hlt
          simp only [Option.some.injEq, Addr.mk.injEq, and_true] at eb9
          obtain ⟨rfl, rfl⟩ := eb9
          obtain rfl : y = y9 := hx.out.trans hx9.out.symm
          have hlown := hMn.size
          clear hg2 hn1 MA M3 mE c0 c1 c2 hown hM oo hs2 hlow hbr
          go_wp2_with fail
          simp only [noPan]
          go_wp2_with fail
          go_roundw
          case rel => exact ⟨k + 1, by omega, by go_num, by rw [HE.out, HA.out, HBq.out, ← List.append_assoc]; exact ho2, HVB.out, oon, hMn, hsn⟩
          case measure => simp [intOf]; omega
        · have e2' : (y.eg != 0) = false := by simp only [bne, e2]; rfl
          have HBq := Lib.hid (show endB y = [] from if_pos (by simpa using e2))
          clear e2
          go_wp2_with fail
          go_roundw
          case rel => exact ⟨k + 1, by omega, by go_num, by rw [HE.out, HA.out, HBq.out, List.append_nil]; exact hown, HVB.out, oo, hM, hs2⟩
          case measure => simp [intOf]; omega
      · have e1' : (y.ing != 0) = false := by simp only [bne, e1]; rfl
        have HA := Lib.hid (show endA y = [] from if_pos (by simpa using e1))
        clear e1
        cases e2 : (y.eg == 0)
        · have e2' : (y.eg != 0) = true := by simp only [bne, e2]; rfl
          have HBq := Lib.hid (show endB y = [ifN y.nd y.eg] from if_neg (by simpa using e2))
          clear e2
          go_wp2_with fail
          refine wp_region_wkt (fun w' => Mk0 wr w' ∧ w'.cell? ⟨b, off + k * 3, none⟩ = some (.int .i64 y.nd) ∧ w'.cell? ⟨b, off + k * 3 + 1, none⟩ = some (.int .i64 y.ing) ∧ w'.cell? ⟨b, off + k * 3 + 2, none⟩ = some (.int .i64 y.eg)) 13 (by kernel_rfl) (by kernel_rfl) (by kernel_rfl) (by decide) (⟨Mk.drew1 _, c0, c1, c2⟩) ?_
          change WkT _ _ _ _ _ 13 0 _
          first | (refine WkT.skip (m := 12) (k := 0) rfl (by rfl) ?_) | (refine WkT.pure (m := 12) (k := 0) (v := _) rfl (by rfl) (fun wv => by go_simp; try with_reducible rfl) ?_) | (refine WkT.step (m := 12) (k := 0) (v := _) rfl (by rfl) (by kernel_rfl) (fun wv hS => by obtain ⟨s0, s1, s2, s3⟩ := hS; go_simp; try with_reducible rfl) ?_)
          try simp only [Act.put, List.getElem_toArray, List.getElem_cons_zero, List.setIfInBounds_toArray, List.set_cons_zero, List.set_cons_succ]
          first | (refine WkT.skip (m := 11) (k := 1) rfl (by rfl) ?_) | (refine WkT.pure (m := 11) (k := 1) (v := _) rfl (by rfl) (fun wv => by go_simp; try with_reducible rfl) ?_) | (refine WkT.step (m := 11) (k := 1) (v := _) rfl (by rfl) (by kernel_rfl) (fun wv hS => by obtain ⟨s0, s1, s2, s3⟩ := hS; go_simp; try with_reducible rfl) ?_)
          try simp only [Act.put, List.getElem_toArray, List.getElem_cons_succ, List.getElem_cons_zero, List.setIfInBounds_toArray, List.set_cons_zero, List.set_cons_succ]
          first | (refine WkT.skip (m := 10) (k := 2) rfl (by rfl) ?_) | (refine WkT.pure (m := 10) (k := 2) (v := _) rfl (by rfl) (fun wv => by go_simp; try with_reducible rfl) ?_) | (refine WkT.step (m := 10) (k := 2) (v := _) rfl (by rfl) (by kernel_rfl) (fun wv hS => by obtain ⟨s0, s1, s2, s3⟩ := hS; go_simp; try with_reducible rfl) ?_)
          try simp only [Act.put, List.getElem_toArray, List.getElem_cons_succ, List.getElem_cons_zero, List.setIfInBounds_toArray, List.set_cons_zero, List.set_cons_succ]
          first | (refine WkT.skip (m := 9) (k := 3) rfl (by rfl) ?_) | (refine WkT.pure (m := 9) (k := 3) (v := _) rfl (by rfl) (fun wv => by go_simp; try with_reducible rfl) ?_) | (refine WkT.step (m := 9) (k := 3) (v := _) rfl (by rfl) (by kernel_rfl) (fun wv hS => by obtain ⟨s0, s1, s2, s3⟩ := hS; go_simp; try with_reducible rfl) ?_)
          try simp only [Act.put, List.getElem_toArray, List.getElem_cons_succ, List.getElem_cons_zero, List.setIfInBounds_toArray, List.set_cons_zero, List.set_cons_succ]
          first | (refine WkT.skip (m := 8) (k := 4) rfl (by rfl) ?_) | (refine WkT.pure (m := 8) (k := 4) (v := _) rfl (by rfl) (fun wv => by go_simp; try with_reducible rfl) ?_) | (refine WkT.step (m := 8) (k := 4) (v := _) rfl (by rfl) (by kernel_rfl) (fun wv hS => by obtain ⟨s0, s1, s2, s3⟩ := hS; go_simp; try with_reducible rfl) ?_)
          try simp only [Act.put, List.getElem_toArray, List.getElem_cons_succ, List.getElem_cons_zero, List.setIfInBounds_toArray, List.set_cons_zero, List.set_cons_succ]
          first | (refine WkT.skip (m := 7) (k := 5) rfl (by rfl) ?_) | (refine WkT.pure (m := 7) (k := 5) (v := _) rfl (by rfl) (fun wv => by go_simp; try with_reducible rfl) ?_) | (refine WkT.step (m := 7) (k := 5) (v := _) rfl (by rfl) (by kernel_rfl) (fun wv hS => by obtain ⟨s0, s1, s2, s3⟩ := hS; go_simp; try with_reducible rfl) ?_)
          try simp only [Act.put, List.getElem_toArray, List.getElem_cons_succ, List.getElem_cons_zero, List.setIfInBounds_toArray, List.set_cons_zero, List.set_cons_succ]
          first | (refine WkT.skip (m := 6) (k := 6) rfl (by rfl) ?_) | (refine WkT.pure (m := 6) (k := 6) (v := _) rfl (by rfl) (fun wv => by go_simp; try with_reducible rfl) ?_) | (refine WkT.step (m := 6) (k := 6) (v := _) rfl (by rfl) (by kernel_rfl) (fun wv hS => by obtain ⟨s0, s1, s2, s3⟩ := hS; go_simp; try with_reducible rfl) ?_)
          try simp only [Act.put, List.getElem_toArray, List.getElem_cons_succ, List.getElem_cons_zero, List.setIfInBounds_toArray, List.set_cons_zero, List.set_cons_succ]
          first | (refine WkT.skip (m := 5) (k := 7) rfl (by rfl) ?_) | (refine WkT.pure (m := 5) (k := 7) (v := _) rfl (by rfl) (fun wv => by go_simp; try with_reducible rfl) ?_) | (refine WkT.step (m := 5) (k := 7) (v := _) rfl (by rfl) (by kernel_rfl) (fun wv hS => by obtain ⟨s0, s1, s2, s3⟩ := hS; go_simp; try with_reducible rfl) ?_)
          try simp only [Act.put, List.getElem_toArray, List.getElem_cons_succ, List.getElem_cons_zero, List.setIfInBounds_toArray, List.set_cons_zero, List.set_cons_succ]
          first | (refine WkT.skip (m := 4) (k := 8) rfl (by rfl) ?_) | (refine WkT.pure (m := 4) (k := 8) (v := _) rfl (by rfl) (fun wv => by go_simp; try with_reducible rfl) ?_) | (refine WkT.step (m := 4) (k := 8) (v := _) rfl (by rfl) (by kernel_rfl) (fun wv hS => by obtain ⟨s0, s1, s2, s3⟩ := hS; go_simp; try with_reducible rfl) ?_)
          try simp only [Act.put, List.getElem_toArray, List.getElem_cons_succ, List.getElem_cons_zero, List.setIfInBounds_toArray, List.set_cons_zero, List.set_cons_succ]
          first | (refine WkT.skip (m := 3) (k := 9) rfl (by rfl) ?_) | (refine WkT.pure (m := 3) (k := 9) (v := _) rfl (by rfl) (fun wv => by go_simp; try with_reducible rfl) ?_) | (refine WkT.step (m := 3) (k := 9) (v := _) rfl (by rfl) (by kernel_rfl) (fun wv hS => by obtain ⟨s0, s1, s2, s3⟩ := hS; go_simp; try with_reducible rfl) ?_)
          try simp only [Act.put, List.getElem_toArray, List.getElem_cons_succ, List.getElem_cons_zero, List.setIfInBounds_toArray, List.set_cons_zero, List.set_cons_succ]
          first | (refine WkT.skip (m := 2) (k := 10) rfl (by rfl) ?_) | (refine WkT.pure (m := 2) (k := 10) (v := _) rfl (by rfl) (fun wv => by go_simp; try with_reducible rfl) ?_) | (refine WkT.step (m := 2) (k := 10) (v := _) rfl (by rfl) (by kernel_rfl) (fun wv hS => by obtain ⟨s0, s1, s2, s3⟩ := hS; go_simp; try with_reducible rfl) ?_)
          try simp only [Act.put, List.getElem_toArray, List.getElem_cons_succ, List.getElem_cons_zero, List.setIfInBounds_toArray, List.set_cons_zero, List.set_cons_succ]
          first | (refine WkT.skip (m := 1) (k := 11) rfl (by rfl) ?_) | (refine WkT.pure (m := 1) (k := 11) (v := _) rfl (by rfl) (fun wv => by go_simp; try with_reducible rfl) ?_) | (refine WkT.step (m := 1) (k := 11) (v := _) rfl (by rfl) (by kernel_rfl) (fun wv hS => by obtain ⟨s0, s1, s2, s3⟩ := hS; go_simp; try with_reducible rfl) ?_)
          try simp only [Act.put, List.getElem_toArray, List.getElem_cons_succ, List.getElem_cons_zero, List.setIfInBounds_toArray, List.set_cons_zero, List.set_cons_succ]
          first | (refine WkT.skip (m := 0) (k := 12) rfl (by rfl) ?_) | (refine WkT.pure (m := 0) (k := 12) (v := _) rfl (by rfl) (fun wv => by go_simp; try with_reducible rfl) ?_) | (refine WkT.step (m := 0) (k := 12) (v := _) rfl (by rfl) (by kernel_rfl) (fun wv hS => by obtain ⟨s0, s1, s2, s3⟩ := hS; go_simp; try with_reducible rfl) ?_)
          try simp only [Act.put, List.getElem_toArray, List.getElem_cons_succ, List.getElem_cons_zero, List.setIfInBounds_toArray, List.set_cons_zero, List.set_cons_succ]
          refine WkT.done fun wE hE => ?_
          obtain ⟨mE, c0, c1, c2⟩ := hE
          simp only [List.drop_succ_cons, List.drop_zero]
          have M3 := mE
          have MA := Mk.alloc wE (.cells #[.int .i64 (ifN y.nd y.eg)] 3)
          have hn1 := has_new .i64 wE 3 (ifN y.nd y.eg)
          have ho3 := own_keptR (own_keptR hown mE) MA
          have hlo3 := Nat.le_trans (Nat.le_trans hlow mE.size) MA.size
          have oo3 := (oo.mk mE hs2 (.inr (.inr (Nat.le_refl _)))).mk MA (Nat.le_trans hs2 mE.size) (.inr (.inr (Nat.le_refl _)))
          go_wp2_with (at_builtin; refine wpList_app rfl (.tmp 42) (.tmp 55) 49 rfl W1.heap.size 3 i0 Tryz.underlying49 hi hz0 hz1 hby _ L (L).length rfl ho3 _ 1 1 [ifN y.nd y.eg] rfl (fun h => by cases h) hn1 (by first | omega | (rw [List.length_append]; simp; omega)) hlo3 ?_; intro v2 w4 ho2 hg2 hvb2)
          have hMn := ((hM.trans mE).trans MA).appR hg2 (fun g hg => (ho3.lt g hg).1)
          have oon := oo3.grown hg2 (fun g hg => HVB.out g hg) (Nat.le_trans (Nat.le_trans hs2 mE.size) MA.size)
          have hsn := Nat.le_trans (Nat.le_trans (Nat.le_trans hs2 mE.size) MA.size) hg2.size
          have hvn : ∀ g, v2.ownBlock = some g → g < lo ∨ w2.heap.size ≤ g := fun g hg => by
            rcases hvb2 with hv | hv
            · exact HVB.out g (hv ▸ hg)
            · rw [hv, World.size_alloc] at hg; injection hg with hg; have := Nat.le_trans hs2 mE.size; omega
          replace HVB := Lib.hid hvn
          have hLn : (L ++ [ifN y.nd y.eg]).length = (L).length + 1 := by simp
          rw [← hLn] at ho2
          have HLn := Lib.hid hLn
          clear hvn hLn ho3 hlo3 oo3 hvb2
          obtain ⟨b9, off9, y9, eb9, _, hx9, g0, g1, g2⟩ := HasStep.at _ _ _ _ _ _ oon.has hlt
          simp only [Option.some.injEq, Addr.mk.injEq, and_true] at eb9
          obtain ⟨rfl, rfl⟩ := eb9
          obtain rfl : y = y9 := hx.out.trans hx9.out.symm
          have hlown := hMn.size
          clear hg2 hn1 MA M3 mE c0 c1 c2 hown hM oo hs2 hlow hbr
          go_wp2_with fail
          simp only [noPan]
          go_wp2_with fail
          go_roundw
          case rel => exact ⟨k + 1, by omega, by go_num, by rw [HE.out, HA.out, HBq.out, List.nil_append]; exact ho2, HVB.out, oon, hMn, hsn⟩
          case measure => simp [intOf]; omega
        · have e2' : (y.eg != 0) = false := by simp only [bne, e2]; rfl
          have HBq := Lib.hid (show endB y = [] from if_pos (by simpa using e2))
          clear e2
          go_wp2_with fail
          go_roundw
          case rel => exact ⟨k + 1, by omega, by go_num, by rw [HE.out, HA.out, HBq.out, List.append_nil, List.append_nil]; exact hown, HVB.out, oo, hM, hs2⟩
          case measure => simp [intOf]; omega
    · obtain rfl : k = N := by omega
      go_wp2_with fail
      go_ret
      rw [HR.out]
      exact OutOwnI.of (own_low hown M0.size) (M0.trans hM)

set_option maxRecDepth 100000 in
set_option maxHeartbeats 4000000 in
theorem implUsed (a : Option Addr) (n c B : Nat) (ps : List TPathPart) (w : World) (h : HasPathPart w B a n ps) (hB : B ≤ w.heap.size) (hn : szPathPart ps n ≤ 1048576) :
    Calls Tryz.prog 26 #[.agg #[.slice a n c]] w (OutOwnI 3 w (usedAll ps n)) := by
  obtain ⟨i0, hi, hz0, hz1, hz2⟩ := info_parts infoI64
  have hby : i0.bytes ≤ 8 := by rw [hz2]; decide
  have M0 := Mk.alloc w (Obj.cells #[Value.slice a n c] 39)
  have hsz := Lib.hid (World.size_alloc w (Obj.cells #[Value.slice a n c] 39))
  have k0 : (w.alloc (Obj.cells #[Value.slice a n c] 39)).cell? ⟨w.heap.size, 0, none⟩ = some (.slice a n c) := by simp [go_sem]
  generalize hW1 : w.alloc (Obj.cells #[Value.slice a n c] 39) = W1 at *
  have k0' := (Mk.alloc W1 (.cells #[] 3)).cellAt k0
  go_enter Tryz.func26, Tryz.ntmps26
  go_wp2_with fail
  clear hW1 k0 k0'
  have hl0 := own_empI W1 3
  have ML := Mk.alloc W1 (.cells #[] 3)
  have M1 := M0.trans ML
  refine (implStepsOf a n c B ps _ (h.mk M1 hB (.inr (Nat.le_refl _))) (Nat.le_trans hB M1.size) hn).mono ?_
  rintro e w2 ⟨A, N, cc, rfl, hcc, oo, m2⟩
  have hNle : N ≤ 1048576 := by have := pathSt_le ps n; have := oo.1; omega
  have HR := Lib.hid (show usedAll ps n = usedUp (pathSt ps n) N by unfold usedAll; rw [oo.1])
  have hl2 := own_keptR hl0 m2
  have M2 := ML.trans m2
  obtain ⟨lo, hlo⟩ : ∃ lo, Hid (lo = (W1.alloc (.cells #[] 3)).heap.size) := ⟨_, rfl⟩
  rw [← hlo.out] at oo
  have hlo1 : lo = W1.heap.size + 1 := by rw [hlo.out, World.size_alloc]
  have hb0 : ∀ g, (Value.slice (some ⟨W1.heap.size, 0, none⟩) 0 0).ownBlock = some g → g < lo ∨ w2.heap.size ≤ g := fun g hg => .inl (by
    have : W1.heap.size = g := by simpa [Value.ownBlock] using hg
    omega)
  have HLO := Lib.hid hlo1
  clear hl0 ML M1 m2 hlo1 hlo
  go_wp2_with fail
  go_loopw [3, 10] (fun v i wr => ∃ k : Nat, k ≤ N ∧ i = .int .i64 k ∧ wr.ownsRow W1.heap.size 3 1 v (usedUp (pathSt ps n) k).length ((usedUp (pathSt ps n) k).map (.int .i64)) ∧ (∀ g, v.ownBlock = some g → g < lo ∨ w2.heap.size ≤ g) ∧ OwnStep wr lo w2.heap.size A N (pathSt ps n) ∧ Mk0 W1 wr ∧ w2.heap.size ≤ wr.heap.size) (fun _ i _ => N - (intOf i).toNat)
  case atStart => exact ⟨0, Nat.zero_le _, rfl, hl2, hb0, oo, M2, Nat.le_refl _⟩
  case round =>
    clear hl2 hb0 oo M2
    obtain ⟨k, hk, rfl, hown, hvb, oo, hM, hs2⟩ := hrel
    have HVB := Lib.hid hvb
    clear hvb
    have hul := usedUp_len (pathSt ps n) k
    by_cases hlt : k < N
    · obtain ⟨b, off, y, rfl, hb, hx, c0, c1, c2⟩ := HasStep.at _ _ _ _ _ _ oo.has hlt
      have hbr := World.block_lt_of_cell? _ _ c0
      simp only at hbr
      have i1 : (0 : Int) ≤ (k : Int) := by omega
      have i2 : (k : Int) < (N : Int) := by omega
      have hlow := hM.size
      have HE := Lib.hid (show usedUp (pathSt ps n) (k + 1) = usedUp (pathSt ps n) k ++ (endA y ++ endB y) by rw [usedUp, ← hx.out])
      obtain ⟨L, hLq⟩ : ∃ L, Hid (L = usedUp (pathSt ps n) k) := ⟨_, rfl⟩
      rw [← hLq.out] at hown hul HE
      have MX := Mk.alloc wr (Obj.cells #[Value.int .i64 y.nd, Value.int .i64 y.ing, Value.int .i64 y.eg] 92)
      go_wp2_with fail
      refine (implEnds2 y _).mono ?_
      rintro e w3 ⟨v3, rfl, ow3, m3⟩
      obtain ⟨A3, c3, rfl, hcc3⟩ := ownsRow_slice ow3
      have hE3 := (ownsRow_own ow3).has
      have M3 := MX.trans m3
      have hown3 := own_keptR hown M3
      have hlo3 := Nat.le_trans hlow M3.size
      obtain ⟨m, hm⟩ : ∃ m, Hid (m = (endA y ++ endB y).length) := ⟨_, rfl⟩
      have hml : m ≤ 2 := by have h1 := endA_len y; have h2 := endB_len y; have := hm.out; rw [List.length_append] at this; omega
      rw [← hm.out] at hE3 ⊢
      go_wp2_with (at_builtin; refine wpList_app rfl (.tmp 14) (.tmp 16) 49 rfl W1.heap.size 3 i0 Tryz.underlying49 hi hz0 hz1 hby _ L L.length rfl hown3 _ m c3 (endA y ++ endB y) rfl hcc3 hE3 (by omega) hlo3 ?_; intro v2 w4 ho2 hg2 hvb2)
      have M4 := (hM.trans M3).appR hg2 (fun g hg => (hown3.lt g hg).1)
      have oo4 := (oo.mk M3 hs2 (.inr (.inr (Nat.le_refl _)))).grown hg2 (fun g hg => HVB.out g hg) (Nat.le_trans hs2 M3.size)
      have hs4 := Nat.le_trans (Nat.le_trans hs2 M3.size) hg2.size
      go_wp2_with fail
      go_roundw
      case rel =>
        refine ⟨k + 1, by omega, by go_num, by rw [HE.out, List.length_append, ← hm.out]; exact ho2, fun g hg => ?_, oo4, M4, hs4⟩
        rcases hvb2 with hv | hv
        · exact HVB.out g (hv ▸ hg)
        · rw [hv] at hg; injection hg with hg; have := Nat.le_trans hs2 M3.size; omega
      case measure => simp [intOf]; omega
    · obtain rfl : k = N := by omega
      go_wp2_with fail
      go_ret
      rw [HR.out]
      exact OutOwnI.of (own_low hown M0.size) (M0.trans hM)

end Go.Proofs.YtjdlkgfelccicaaGreat
namespace Go.Proofs.YtjdlkgfelccicaaGreat
open Go.ChangeShapes Go.WideShapes Go.ChangeAt Go.RowKit
set_option linter.unusedVariables false
def simB (n0 : Nat) (zl : List TLink) (n1 : Nat) (ps : List TPathPart) (n : Nat) : Bool := wpB n0 zl n1 ps n && diffB (usedAll ps n)
set_option maxRecDepth 100000 in
set_option maxHeartbeats 800000 in
theorem specHasF (a : Option Addr) (n c B : Nat) (zs : List Int) (x : Int) (k : Nat) (w : World) (h : Has .i64 w B a n zs) (hk : k ≤ n) (hn : n ≤ 4194304) :
    Calls Tryz.prog 20 #[.slice a k c, .int .i64 x] w fun e w' => e = .returned (.bool (hasF zs x k)) ∧ w = w' := by
  go_enter Tryz.func20, Tryz.ntmps20
  go_wp2
  go_loop [4, 5] (fun r i => r = .bool false ∧ ∃ j : Nat, j ≤ k ∧ i = .int .i64 j ∧ hasF zs x j = false) (fun _ i => k - (intOf i).toNat)
  case atStart => exact ⟨rfl, 0, Nat.zero_le _, rfl, rfl⟩
  case round =>
    obtain ⟨rfl, j, hj, rfl, hno⟩ := hrel
    by_cases hlt : j < k
    · obtain ⟨b, off, z, rfl, hb, hz, hc⟩ := h.at_ (i := j) (by omega)
      cases he : (z == x)
      · have E := Lib.hid (show hasF zs x (j + 1) = false by rw [hasF, hno, ← hz.out, he]; rfl)
        clear hno
        go_wp2_with fail
        go_round
        case rel => exact ⟨rfl, j + 1, by omega, by go_num, E.out⟩
        case measure => simp [intOf]; omega
      · have E := Lib.hid (hasF_stop (x := x) (by rw [← hz.out]; simpa using he) k hlt)
        clear hno
        go_wp2_with fail
        go_ret
        exact ⟨retB E.out.symm, rfl⟩
    · obtain rfl : j = k := by omega
      have E := Lib.hid hno
      clear hno
      go_wp2
      go_ret
      exact ⟨retB E.out.symm, rfl⟩
set_option maxRecDepth 100000 in
set_option maxHeartbeats 4000000 in
theorem implDiff (a : Option Addr) (n c lo : Nat) (zs : List Int) (w : World) (h : Own .i64 w lo a n zs) (hn : n ≤ 1073741824) (hc : n ≤ c) :
    Calls Tryz.prog 25 #[.slice a n c] w fun e w' => e = .returned (.bool (diffB zs)) ∧ ∃ w1, Mk lo w.heap.size w w1 ∧ Mk lo w1.heap.size w1 w' := by
  have hl := h.1
  go_enter Tryz.func25, Tryz.ntmps25
  go_wp2_with fail
  refine (implSort a n c lo zs _ h hn).mono ?_
  rintro e w2 ⟨rfl, hO2, m2⟩
  go_wp2_with fail
  refine (implCompact a n c lo _ _ hO2 hn hc).mono ?_
  rintro e w3 ⟨rfl, hO3, m3⟩
  have HR := Lib.hid (show (((Lib.compact (sortL zs)).length : Int) == (n : Int)) = diffB zs by rw [← hl]; rfl)
  obtain ⟨P, hP⟩ : ∃ P, Hid (P = (Lib.compact (sortL zs)).length) := ⟨_, Lib.hid rfl⟩
  rw [← hP.out] at hO3 HR ⊢
  go_wp2_with fail
  go_ret
  exact ⟨retB HR.out, _, m2, m3⟩

set_option maxRecDepth 100000 in
set_option maxHeartbeats 4000000 in
theorem specSim (a0 a1 : Option Addr) (n0 c0 n1 c1 B : Nat) (zl : List TLink) (a : Option Addr) (n c B' : Nat) (ps : List TPathPart) (w : World) (hl : HasLink w B a1 n1 zl) (hB : B ≤ w.heap.size) (hn0 : n0 ≤ 1048576) (hn1 : n1 ≤ 1048576) (h : HasPathPart w B' a n ps) (hB' : B' ≤ w.heap.size) (hn : szPathPart ps n ≤ 1048576) :
    Calls Tryz.prog 7 #[.agg #[.slice a0 n0 c0, .slice a1 n1 c1], .agg #[.slice a n c]] w fun e w' => e = .returned (.bool (simB n0 zl n1 ps n)) ∧ Mk0 w w' := by
  have M0 := (Mk.alloc w (Obj.cells #[Value.slice a0 n0 c0, Value.slice a1 n1 c1] 35)).new (Obj.cells #[Value.slice a n c] 39)
  have k0 : ((w.alloc (Obj.cells #[Value.slice a0 n0 c0, Value.slice a1 n1 c1] 35)).alloc (Obj.cells #[Value.slice a n c] 39)).cell? ⟨w.heap.size, 0, none⟩ = some (.slice a0 n0 c0) := by simp [go_sem]
  have k1 : ((w.alloc (Obj.cells #[Value.slice a0 n0 c0, Value.slice a1 n1 c1] 35)).alloc (Obj.cells #[Value.slice a n c] 39)).cell? ⟨w.heap.size, 1, none⟩ = some (.slice a1 n1 c1) := by simp [go_sem]
  have j0 : ((w.alloc (Obj.cells #[Value.slice a0 n0 c0, Value.slice a1 n1 c1] 35)).alloc (Obj.cells #[Value.slice a n c] 39)).cell? ⟨w.heap.size + 1, 0, none⟩ = some (.slice a n c) := by simp [go_sem]
  have hU : (usedAll ps n).length ≤ 2097152 := by
    have h1 := usedUp_len (pathSt ps n) (pathSt ps n).length
    have h2 := pathSt_le ps n
    unfold usedAll
    omega
  go_enter Tryz.func7, Tryz.ntmps7
  go_wp2_with fail
  generalize ((w.alloc (Obj.cells #[Value.slice a0 n0 c0, Value.slice a1 n1 c1] 35)).alloc (Obj.cells #[Value.slice a n c] 39)) = WW at *
  refine (specWfP a0 a1 n0 c0 n1 c1 B zl a n c B' ps _ (hl.mk M0 hB (.inr (Nat.le_refl _))) (Nat.le_trans hB M0.size) hn0 hn1 (h.mk M0 hB' (.inr (Nat.le_refl _))) (Nat.le_trans hB' M0.size) hn).mono ?_
  rintro e w2 ⟨he, m2⟩
  cases hw : wpB n0 zl n1 ps n
  · have HR := Lib.hid (show simB n0 zl n1 ps n = false by unfold simB; rw [hw]; rfl)
    rw [hw] at he
    subst he
    clear hw
    go_wp2_with fail
    go_ret
    exact ⟨retB HR.out.symm, M0.trans m2⟩
  · have HR := Lib.hid (show simB n0 zl n1 ps n = diffB (usedAll ps n) by unfold simB; rw [hw]; rfl)
    rw [hw] at he
    subst he
    clear hw
    replace j0 := m2.cellAt j0
    have M2 := M0.trans m2
    go_wp2_with fail
    refine (specUsed a n c B' ps _ (h.mk M2 hB' (.inr (Nat.le_refl _))) (Nat.le_trans hB' M2.size) hn).mono ?_
    rintro e w3 ⟨v, rfl, hown, m3⟩
    obtain ⟨Z, hZ⟩ : ∃ Z, Hid (Z = usedAll ps n) := ⟨_, Lib.hid rfl⟩
    rw [← hZ.out] at hown hU HR
    obtain ⟨A, C, rfl, hA, hNC⟩ := ownsRow_sliceR2 hown
    have hO := ownsRow_own hown
    clear hown
    have hH := hO.has
    obtain ⟨N, hN⟩ : ∃ N, Hid (N = Z.length) := ⟨_, Lib.hid rfl⟩
    rw [← hN.out] at hH hNC hU
    rw [← hN.out]
    clear hO
    have M3 := M2.trans m3
    go_wp2_with fail
    go_loopw [4, 6] (fun r i wr => r = .bool false ∧ ∃ k : Nat, k ≤ N ∧ i = .int .i64 k ∧ Hid (∀ j, j < k → hasF Z (Z.getD j 0) j = false) ∧ Mk0 w3 wr) (fun _ i _ => N - (intOf i).toNat)
    case atStart => exact ⟨rfl, 0, Nat.zero_le _, rfl, Lib.hid (fun j hj => absurd hj (by omega)), Mk.refl _ _ _⟩
    case round =>
      obtain ⟨rfl, k, hk, rfl, hS, hM⟩ := hrel
      have hHr := hH.next hM.below0
      by_cases hlt : k < N
      · have i1 : (0 : Int) ≤ (k : Int) := by omega
        have i2 : (k : Int) < (N : Int) := by omega
        have i3 : (k : Int) ≤ (C : Int) := by omega
        have i4 : k ≤ C := by omega
        obtain ⟨b, off, rfl, hb, hc⟩ := hHr.2 (by omega)
        have d0 := hc k hlt
        obtain ⟨q, hq⟩ : ∃ q, Hid (q = Z.getD k 0) := ⟨_, Lib.hid rfl⟩
        rw [← hq.out] at d0
        clear hc
        cases hv : hasF Z q k
        · have HV := Lib.hid hv
          clear hv
          have HS : Hid (∀ j, j < k + 1 → hasF Z (Z.getD j 0) j = false) := Lib.hid (fun j hj => by
            rcases Nat.lt_or_ge j k with h1 | h1
            · exact hS.out j h1
            · obtain rfl : j = k := by omega
              rw [← hq.out]; exact HV.out)
          clear hS
          go_wp2_with fail
          refine wp_region_wk (fun w' => Mk0 wr w' ∧ w'.cell? ⟨b, off + k, none⟩ = some (.int .i64 q)) (by kernel_rfl) (by kernel_rfl) (⟨Mk.drew1 _, d0⟩) ?_
          change Wk _ _ _ _ 8 0 _
          first | (refine Wk.skip (m := 7) (k := 0) rfl (by rfl) ?_) | (refine Wk.step (m := 7) (k := 0) (v := _) rfl (by rfl) (fun wv hS => by obtain ⟨s0, s1⟩ := hS; go_simp; try with_reducible rfl) ?_)
          try simp only [Act.put, List.getElem_toArray, List.getElem_cons_zero, List.setIfInBounds_toArray, List.set_cons_zero, List.set_cons_succ]
          first | (refine Wk.skip (m := 6) (k := 1) rfl (by rfl) ?_) | (refine Wk.step (m := 6) (k := 1) (v := _) rfl (by rfl) (fun wv hS => by obtain ⟨s0, s1⟩ := hS; go_simp; try with_reducible rfl) ?_)
          try simp only [Act.put, List.getElem_toArray, List.getElem_cons_succ, List.getElem_cons_zero, List.setIfInBounds_toArray, List.set_cons_zero, List.set_cons_succ]
          first | (refine Wk.skip (m := 5) (k := 2) rfl (by rfl) ?_) | (refine Wk.step (m := 5) (k := 2) (v := _) rfl (by rfl) (fun wv hS => by obtain ⟨s0, s1⟩ := hS; go_simp; try with_reducible rfl) ?_)
          try simp only [Act.put, List.getElem_toArray, List.getElem_cons_succ, List.getElem_cons_zero, List.setIfInBounds_toArray, List.set_cons_zero, List.set_cons_succ]
          first | (refine Wk.skip (m := 4) (k := 3) rfl (by rfl) ?_) | (refine Wk.step (m := 4) (k := 3) (v := _) rfl (by rfl) (fun wv hS => by obtain ⟨s0, s1⟩ := hS; go_simp; try with_reducible rfl) ?_)
          try simp only [Act.put, List.getElem_toArray, List.getElem_cons_succ, List.getElem_cons_zero, List.setIfInBounds_toArray, List.set_cons_zero, List.set_cons_succ]
          first | (refine Wk.skip (m := 3) (k := 4) rfl (by rfl) ?_) | (refine Wk.step (m := 3) (k := 4) (v := _) rfl (by rfl) (fun wv hS => by obtain ⟨s0, s1⟩ := hS; go_simp; try with_reducible rfl) ?_)
          try simp only [Act.put, List.getElem_toArray, List.getElem_cons_succ, List.getElem_cons_zero, List.setIfInBounds_toArray, List.set_cons_zero, List.set_cons_succ]
          first | (refine Wk.skip (m := 2) (k := 5) rfl (by rfl) ?_) | (refine Wk.step (m := 2) (k := 5) (v := _) rfl (by rfl) (fun wv hS => by obtain ⟨s0, s1⟩ := hS; go_simp; try with_reducible rfl) ?_)
          try simp only [Act.put, List.getElem_toArray, List.getElem_cons_succ, List.getElem_cons_zero, List.setIfInBounds_toArray, List.set_cons_zero, List.set_cons_succ]
          first | (refine Wk.skip (m := 1) (k := 6) rfl (by rfl) ?_) | (refine Wk.step (m := 1) (k := 6) (v := _) rfl (by rfl) (fun wv hS => by obtain ⟨s0, s1⟩ := hS; go_simp; try with_reducible rfl) ?_)
          try simp only [Act.put, List.getElem_toArray, List.getElem_cons_succ, List.getElem_cons_zero, List.setIfInBounds_toArray, List.set_cons_zero, List.set_cons_succ]
          refine Wk.call (m := 0) (k := 7) (v := .bool false) _ _ rfl (by rfl) (fun wv hS => by obtain ⟨s0, s1⟩ := hS; go_simp; first | done | exact ⟨rfl, rfl⟩ | with_reducible rfl) (fun wv hS => ?_) ?_; · obtain ⟨s0, s1⟩ := hS; refine (specHasF _ N C _ Z q k wv (hHr.next s0.below0) (by omega) (by omega)).mono ?_; rintro e w' ⟨he, rfl⟩; exact ⟨by rw [he, HV.out], s0, s1⟩
          try simp only [Act.put, List.getElem_toArray, List.getElem_cons_succ, List.getElem_cons_zero, List.setIfInBounds_toArray, List.set_cons_zero, List.set_cons_succ]
          refine Wk.done fun wE hE => ?_
          clear d0
          obtain ⟨mE, d0⟩ := hE
          go_wp2_with fail
          go_roundw
          case rel => exact ⟨rfl, k + 1, by omega, by go_num, HS, hM.trans mE⟩
          case measure => simp [intOf]; omega
        · have HV := Lib.hid hv
          clear hv
          have HX := Lib.hid (diff_hit (zs := Z) (i := k) (by rw [← hN.out]; exact hlt) (by rw [← hq.out]; exact HV.out))
          go_wp2_with fail
          refine wp_region_wk (fun w' => Mk0 wr w' ∧ w'.cell? ⟨b, off + k, none⟩ = some (.int .i64 q)) (by kernel_rfl) (by kernel_rfl) (⟨Mk.drew1 _, d0⟩) ?_
          change Wk _ _ _ _ 8 0 _
          first | (refine Wk.skip (m := 7) (k := 0) rfl (by rfl) ?_) | (refine Wk.step (m := 7) (k := 0) (v := _) rfl (by rfl) (fun wv hS => by obtain ⟨s0, s1⟩ := hS; go_simp; try with_reducible rfl) ?_)
          try simp only [Act.put, List.getElem_toArray, List.getElem_cons_zero, List.setIfInBounds_toArray, List.set_cons_zero, List.set_cons_succ]
          first | (refine Wk.skip (m := 6) (k := 1) rfl (by rfl) ?_) | (refine Wk.step (m := 6) (k := 1) (v := _) rfl (by rfl) (fun wv hS => by obtain ⟨s0, s1⟩ := hS; go_simp; try with_reducible rfl) ?_)
          try simp only [Act.put, List.getElem_toArray, List.getElem_cons_succ, List.getElem_cons_zero, List.setIfInBounds_toArray, List.set_cons_zero, List.set_cons_succ]
          first | (refine Wk.skip (m := 5) (k := 2) rfl (by rfl) ?_) | (refine Wk.step (m := 5) (k := 2) (v := _) rfl (by rfl) (fun wv hS => by obtain ⟨s0, s1⟩ := hS; go_simp; try with_reducible rfl) ?_)
          try simp only [Act.put, List.getElem_toArray, List.getElem_cons_succ, List.getElem_cons_zero, List.setIfInBounds_toArray, List.set_cons_zero, List.set_cons_succ]
          first | (refine Wk.skip (m := 4) (k := 3) rfl (by rfl) ?_) | (refine Wk.step (m := 4) (k := 3) (v := _) rfl (by rfl) (fun wv hS => by obtain ⟨s0, s1⟩ := hS; go_simp; try with_reducible rfl) ?_)
          try simp only [Act.put, List.getElem_toArray, List.getElem_cons_succ, List.getElem_cons_zero, List.setIfInBounds_toArray, List.set_cons_zero, List.set_cons_succ]
          first | (refine Wk.skip (m := 3) (k := 4) rfl (by rfl) ?_) | (refine Wk.step (m := 3) (k := 4) (v := _) rfl (by rfl) (fun wv hS => by obtain ⟨s0, s1⟩ := hS; go_simp; try with_reducible rfl) ?_)
          try simp only [Act.put, List.getElem_toArray, List.getElem_cons_succ, List.getElem_cons_zero, List.setIfInBounds_toArray, List.set_cons_zero, List.set_cons_succ]
          first | (refine Wk.skip (m := 2) (k := 5) rfl (by rfl) ?_) | (refine Wk.step (m := 2) (k := 5) (v := _) rfl (by rfl) (fun wv hS => by obtain ⟨s0, s1⟩ := hS; go_simp; try with_reducible rfl) ?_)
          try simp only [Act.put, List.getElem_toArray, List.getElem_cons_succ, List.getElem_cons_zero, List.setIfInBounds_toArray, List.set_cons_zero, List.set_cons_succ]
          first | (refine Wk.skip (m := 1) (k := 6) rfl (by rfl) ?_) | (refine Wk.step (m := 1) (k := 6) (v := _) rfl (by rfl) (fun wv hS => by obtain ⟨s0, s1⟩ := hS; go_simp; try with_reducible rfl) ?_)
          try simp only [Act.put, List.getElem_toArray, List.getElem_cons_succ, List.getElem_cons_zero, List.setIfInBounds_toArray, List.set_cons_zero, List.set_cons_succ]
          refine Wk.call (m := 0) (k := 7) (v := .bool true) _ _ rfl (by rfl) (fun wv hS => by obtain ⟨s0, s1⟩ := hS; go_simp; first | done | exact ⟨rfl, rfl⟩ | with_reducible rfl) (fun wv hS => ?_) ?_; · obtain ⟨s0, s1⟩ := hS; refine (specHasF _ N C _ Z q k wv (hHr.next s0.below0) (by omega) (by omega)).mono ?_; rintro e w' ⟨he, rfl⟩; exact ⟨by rw [he, HV.out], s0, s1⟩
          try simp only [Act.put, List.getElem_toArray, List.getElem_cons_succ, List.getElem_cons_zero, List.setIfInBounds_toArray, List.set_cons_zero, List.set_cons_succ]
          refine Wk.done fun wE hE => ?_
          clear d0
          obtain ⟨mE, d0⟩ := hE
          go_wp2_with fail
          go_ret
          exact ⟨retB (HR.out.trans HX.out).symm, M3.trans (hM.trans mE)⟩
      · obtain rfl : k = N := by omega
        have HV := Lib.hid (diff_no (zs := Z) (fun i hi => hS.out i (by rw [hN.out]; exact hi)))
        clear hS
        go_wp2_with fail
        go_ret
        exact ⟨retB (HR.out.trans HV.out).symm, M3.trans hM⟩

set_option maxRecDepth 100000 in
set_option maxHeartbeats 4000000 in
theorem implSim (a0 a1 : Option Addr) (n0 c0 n1 c1 B : Nat) (zl : List TLink) (a : Option Addr) (n c B' : Nat) (ps : List TPathPart) (w : World) (hl : HasLink w B a1 n1 zl) (hB : B ≤ w.heap.size) (hn0 : n0 ≤ 1048576) (hn1 : n1 ≤ 1048576) (h : HasPathPart w B' a n ps) (hB' : B' ≤ w.heap.size) (hn : szPathPart ps n ≤ 1048576) :
    Calls Tryz.prog 10 #[.agg #[.slice a0 n0 c0, .slice a1 n1 c1], .agg #[.slice a n c]] w fun e w' => e = .returned (.bool (simB n0 zl n1 ps n)) ∧ Mk0 w w' := by
  have M0 := (Mk.alloc w (Obj.cells #[Value.slice a0 n0 c0, Value.slice a1 n1 c1] 35)).new (Obj.cells #[Value.slice a n c] 39)
  have k0 : ((w.alloc (Obj.cells #[Value.slice a0 n0 c0, Value.slice a1 n1 c1] 35)).alloc (Obj.cells #[Value.slice a n c] 39)).cell? ⟨w.heap.size, 0, none⟩ = some (.slice a0 n0 c0) := by simp [go_sem]
  have k1 : ((w.alloc (Obj.cells #[Value.slice a0 n0 c0, Value.slice a1 n1 c1] 35)).alloc (Obj.cells #[Value.slice a n c] 39)).cell? ⟨w.heap.size, 1, none⟩ = some (.slice a1 n1 c1) := by simp [go_sem]
  have j0 : ((w.alloc (Obj.cells #[Value.slice a0 n0 c0, Value.slice a1 n1 c1] 35)).alloc (Obj.cells #[Value.slice a n c] 39)).cell? ⟨w.heap.size + 1, 0, none⟩ = some (.slice a n c) := by simp [go_sem]
  have hU : (usedAll ps n).length ≤ 2097152 := by
    have h1 := usedUp_len (pathSt ps n) (pathSt ps n).length
    have h2 := pathSt_le ps n
    unfold usedAll
    omega
  go_enter Tryz.func10, Tryz.ntmps10
  go_wp2_with fail
  generalize ((w.alloc (Obj.cells #[Value.slice a0 n0 c0, Value.slice a1 n1 c1] 35)).alloc (Obj.cells #[Value.slice a n c] 39)) = WW at *
  refine (implWfP a0 a1 n0 c0 n1 c1 B zl a n c B' ps _ (hl.mk M0 hB (.inr (Nat.le_refl _))) (Nat.le_trans hB M0.size) hn0 hn1 (h.mk M0 hB' (.inr (Nat.le_refl _))) (Nat.le_trans hB' M0.size) hn).mono ?_
  rintro e w2 ⟨he, m2⟩
  cases hw : wpB n0 zl n1 ps n
  · have HR := Lib.hid (show simB n0 zl n1 ps n = false by unfold simB; rw [hw]; rfl)
    rw [hw] at he
    subst he
    clear hw
    go_wp2_with fail
    go_ret
    exact ⟨retB HR.out.symm, M0.trans m2⟩
  · have HR := Lib.hid (show simB n0 zl n1 ps n = diffB (usedAll ps n) by unfold simB; rw [hw]; rfl)
    rw [hw] at he
    subst he
    clear hw
    replace j0 := m2.cellAt j0
    have M2 := M0.trans m2
    go_wp2_with fail
    refine (implUsed a n c B' ps _ (h.mk M2 hB' (.inr (Nat.le_refl _))) (Nat.le_trans hB' M2.size) hn).mono ?_
    rintro e w3 ⟨v, rfl, hown, m3⟩
    obtain ⟨Z, hZ⟩ : ∃ Z, Hid (Z = usedAll ps n) := ⟨_, Lib.hid rfl⟩
    rw [← hZ.out] at hown hU HR
    obtain ⟨A, C, rfl, hA, hNC⟩ := ownsRow_sliceR2 hown
    have hO := ownsRow_own hown
    clear hown
    obtain ⟨N, hN⟩ : ∃ N, Hid (N = Z.length) := ⟨_, Lib.hid rfl⟩
    rw [← hN.out] at hO hNC hU
    rw [← hN.out]
    go_wp2_with fail
    refine (implDiff A N C w2.heap.size Z _ hO (by omega) hNC).mono ?_
    rintro e w4 ⟨rfl, w5, m5, m4⟩
    go_wp2_with fail
    go_ret
    exact ⟨retB HR.out.symm, M2.trans ((m3.andR m5 (.inl (Nat.le_refl _))).andR m4 (.inl (Nat.le_refl _)))⟩

end Go.Proofs.YtjdlkgfelccicaaGreat
