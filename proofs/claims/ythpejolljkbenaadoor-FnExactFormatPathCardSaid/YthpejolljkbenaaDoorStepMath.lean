
/- The steps of a path, as lists. -/
import Derived.Test.YthpejolljkbenaaDoorSStep
import Derived.Test.YthpejolljkbenaaDoorAppR
import Derived.Test.YthpejolljkbenaaDoorPart
import Derived.Test.YthpejolljkbenaaDoorNPathPart
namespace Go.Proofs.YthpejolljkbenaaDoor
open Go Go.RowKit
set_option linter.unusedVariables false
theorem oneStep : ∀ (x : TStep) (j : Nat), (TStep.cell x j).oneCell' = true := fun x j => by unfold TStep.cell; split <;> rfl
def stOf (x : TPathPart) (k : Nat) : TStep := ⟨(x.hops.getD k default).nd, pInV x.kind x.hops x.hops.length k, pOutV x.kind x.hops x.hops.length k⟩
def stL (x : TPathPart) : Nat → List TStep
  | 0 => []
  | k + 1 => stL x k ++ [stOf x k]
theorem stL_len (x : TPathPart) : ∀ k, (stL x k).length = k
  | 0 => rfl
  | k + 1 => by rw [stL, List.length_append, stL_len x k]; rfl
def lastS (l : List TStep) : TStep := l.getD (l.length - 1) default
def meetB (l s : List TStep) : Bool := decide (0 < l.length) && (decide (0 < s.length) && ((lastS l).nd == (s.getD 0 default).nd))
def glueS (y z : TStep) : TStep := ⟨y.nd, y.ing, z.eg⟩
def joinS (l s : List TStep) : List TStep := if meetB l s = true then l.dropLast ++ (glueS (lastS l) (s.getD 0 default) :: s.tail) else l ++ s
theorem meet_pos {l s : List TStep} (h : meetB l s = true) : 0 < l.length ∧ 0 < s.length := by
  unfold meetB at h
  simp only [Bool.and_eq_true, decide_eq_true_eq] at h
  exact ⟨h.1, h.2.1⟩
theorem joinS_le (l s : List TStep) : (joinS l s).length ≤ l.length + s.length := by
  unfold joinS
  split
  · rename_i h
    have := meet_pos h
    simp only [List.length_append, List.length_dropLast, List.length_cons, List.length_tail]
    omega
  · rw [List.length_append]; omega
theorem joinS_snoc (l s : List TStep) (y : TStep) (hs : 0 < s.length) : joinS l (s ++ [y]) = joinS l s ++ [y] := by
  obtain ⟨z, t, rfl⟩ : ∃ z t, s = z :: t := by
    cases s with
    | nil => simp at hs
    | cons z t => exact ⟨z, t, rfl⟩
  have e : meetB l (z :: t ++ [y]) = meetB l (z :: t) := by simp [meetB]
  unfold joinS
  rw [e]
  split <;> simp
def stepsUp (ps : List TPathPart) : Nat → List TStep
  | 0 => []
  | k + 1 => joinS (stepsUp ps k) (stL (ps.getD k default) (ps.getD k default).hops.length)
theorem stepsUp_le (ps : List TPathPart) : ∀ k, (stepsUp ps k).length ≤ sumTo sePathPart ps k
  | 0 => Nat.le_refl _
  | k + 1 => by
    have h := stepsUp_le ps k
    have h2 := joinS_le (stepsUp ps k) (stL (ps.getD k default) (ps.getD k default).hops.length)
    rw [stL_len] at h2
    rw [stepsUp, sumTo]
    unfold sePathPart
    unfold sePathPart at h
    omega
def fin1 (l : List TStep) : List TStep := l.set 0 ⟨(l.getD 0 default).nd, 0, (l.getD 0 default).eg⟩
def fin2 (l : List TStep) : List TStep := l.set (l.length - 1) ⟨(lastS l).nd, (lastS l).ing, 0⟩
def finS (l : List TStep) : List TStep := if l.length = 0 then l else fin2 (fin1 l)
theorem fin1_len (l : List TStep) : (fin1 l).length = l.length := by simp [fin1]
theorem finS_len (l : List TStep) : (finS l).length = l.length := by
  unfold finS
  split
  · rfl
  · simp [fin2, fin1]
def pathSt (ps : List TPathPart) (n : Nat) : List TStep := finS (stepsUp ps n)
theorem pathSt_le (ps : List TPathPart) (n : Nat) : (pathSt ps n).length ≤ szPathPart ps n := by
  unfold pathSt
  rw [finS_len]
  have := stepsUp_le ps n
  unfold szPathPart
  omega
/-! A row of steps with one number turned. -/
theorem rowC_set (zs : List TStep) (i j : Nat) (x : TStep) (u : Value) (hi : i < zs.length) (hj : j < 3) (hx : ∀ q, q < 3 → TStep.cell x q = if q = j then u else TStep.cell (zs.getD i default) q) :
    (rowC 3 TStep.cell zs).set (i * 3 + j) u = rowC 3 TStep.cell (zs.set i x) := by
  apply List.ext_getElem?
  intro p
  by_cases hp : p < zs.length * 3
  · rw [rowC_get (by decide) (zs.set i x) p (by rw [List.length_set]; exact hp), List.getElem?_set]
    by_cases e : i * 3 + j = p
    · subst e
      rw [if_pos rfl, if_pos (by rw [rowC_len]; exact hp), flat_at _ i j hj]
      have h2 := hx j hj
      rw [if_pos rfl] at h2
      rw [show (zs.set i x).getD i default = x by simp [List.getD_eq_getElem?_getD, hi], h2]
    · rw [if_neg e, rowC_get (by decide) zs p hp]
      congr 1
      have e1 : p = p / 3 * 3 + p % 3 := by omega
      rw [e1, flat_at zs (p / 3) (p % 3) (by omega), flat_at (zs.set i x) (p / 3) (p % 3) (by omega)]
      by_cases e2 : p / 3 = i
      · have h2 := hx (p % 3) (by omega)
        rw [if_neg (by omega)] at h2
        rw [e2, show (zs.set i x).getD i default = x by simp [List.getD_eq_getElem?_getD, hi], h2]
      · rw [show (zs.set i x).getD (p / 3) default = zs.getD (p / 3) default by simp [List.getD_eq_getElem?_getD, Ne.symm e2]]
  · rw [List.getElem?_eq_none (by rw [List.length_set, rowC_len]; omega), List.getElem?_eq_none (by rw [rowC_len, List.length_set]; omega)]
theorem own_put3 {w : World} {lo g n c : Nat} {e : TypeId} {zs : List TStep} (h : w.ownsRow lo e 3 (.slice (some ⟨g, 0, none⟩) n c) n (rowC 3 TStep.cell zs)) (i : Nat) (hi : i < zs.length) (y : TStep) :
    (((w.setCell ⟨g, i * 3, none⟩ (.int .i64 y.nd)).setCell ⟨g, i * 3 + 1, none⟩ (.int .i64 y.ing)).setCell ⟨g, i * 3 + 2, none⟩ (.int .i64 y.eg)).ownsRow lo e 3 (.slice (some ⟨g, 0, none⟩) n c) n (rowC 3 TStep.cell (zs.set i y)) := by
  have e0 : ∀ (zs : List TStep) (x : TStep), i < zs.length → (zs.set i x).getD i default = x := fun zs x hi => by simp [List.getD_eq_getElem?_getD, hi]
  obtain ⟨h1, _⟩ := h.stored (i * 3 + 0) (.int .i64 y.nd)
  rw [rowC_set zs i 0 ⟨y.nd, (zs.getD i default).ing, (zs.getD i default).eg⟩ _ hi (by decide) (fun q hq => by
    match q, hq with
    | 0, _ => rfl
    | 1, _ => rfl
    | 2, _ => rfl)] at h1
  obtain ⟨h2, _⟩ := h1.stored (i * 3 + 1) (.int .i64 y.ing)
  rw [rowC_set _ i 1 ⟨y.nd, y.ing, (zs.getD i default).eg⟩ _ (by rw [List.length_set]; exact hi) (by decide) (fun q hq => by
    rw [e0 zs _ hi]
    match q, hq with
    | 0, _ => rfl
    | 1, _ => rfl
    | 2, _ => rfl)] at h2
  obtain ⟨h3, _⟩ := h2.stored (i * 3 + 2) (.int .i64 y.eg)
  rw [rowC_set _ i 2 y _ (by rw [List.length_set, List.length_set]; exact hi) (by decide) (fun q hq => by
    rw [e0 _ _ (by rw [List.length_set]; exact hi)]
    match q, hq with
    | 0, _ => rfl
    | 1, _ => rfl
    | 2, _ => rfl)] at h3
  rw [List.set_set, List.set_set] at h3
  exact h3
theorem rowC_take3 (zs : List TStep) (k : Nat) (hk : k ≤ zs.length) : (rowC 3 TStep.cell zs).take (k * 3) = rowC 3 TStep.cell (zs.take k) := by
  have e : rowC 3 TStep.cell zs = rowC 3 TStep.cell (zs.take k) ++ rowC 3 TStep.cell (zs.drop k) := by rw [← rowC_app, List.take_append_drop]
  rw [e, List.take_append_of_le_length (by rw [rowC_len, List.length_take, Nat.min_eq_left hk]; exact Nat.le_refl _), List.take_of_length_le (by rw [rowC_len, List.length_take, Nat.min_eq_left hk]; exact Nat.le_refl _)]
theorem ownsRow_pop {w : World} {lo g n m c : Nat} {e : TypeId} {zs : List TStep} (h : w.ownsRow lo e 3 (.slice (some ⟨g, 0, none⟩) n c) n (rowC 3 TStep.cell zs)) (hm : n = m + 1) : w.ownsRow lo e 3 (.slice (some ⟨g, 0, none⟩) m c) m (rowC 3 TStep.cell zs.dropLast) := by
  have hl := ownsRow_lenR (by decide) h
  refine ⟨by rw [rowC_len, List.length_dropLast]; omega, ?_⟩
  rcases h.2 with ⟨h', h0⟩ | ⟨g', cap, cur, h', hlo, hh, hn, hc, hs, ht⟩
  · omega
  · simp only [Value.slice.injEq, Option.some.injEq, Addr.mk.injEq, and_true, true_and] at h'
    obtain ⟨rfl, rfl⟩ := h'
    refine .inr ⟨g, c, cur, rfl, hlo, hh, by omega, hc, hs, ?_⟩
    have e : zs.dropLast = zs.take m := by rw [List.dropLast_eq_take, hl, hm]; rfl
    rw [e, ← rowC_take3 zs m (by omega), ← ht, List.take_take, Nat.min_eq_left (by omega)]
theorem own_setR {w : World} {lo n : Nat} {e : TypeId} {v : Value} {xs : List Value} (h : w.ownsRow lo e 3 v n xs) (p : Addr) (u : Value) (hp : ∀ q, v.ownBlock = some q → q ≠ p.block) : (w.setCell p u).ownsRow lo e 3 v n xs :=
  h.kept (row := some p.block) ⟨rfl, rfl, rfl, by simp [World.setCell], fun k _ hk => Below.heap_setCell w p u k (fun e => hk (by rw [e]))⟩ (by cases hv : v.ownBlock with | none => exact .inl rfl | some g => exact .inr (fun e => hp g hv (by injection e)))
theorem glue_set (l : List TStep) (y : TStep) (h : 0 < l.length) : l.set (l.length - 1) y = l.dropLast ++ [y] := by
  obtain ⟨i, z, rfl⟩ : ∃ i z, l = i ++ [z] := ⟨l.dropLast, l.getLast (by intro e; subst e; simp at h), (List.dropLast_concat_getLast _).symm⟩
  simp
theorem tail_row {w : World} {B n : Nat} {b off : Nat} {zs : List TStep} (h : HasStep w B (some ⟨b, off, none⟩) (n + 1) zs) (A : Option Addr) (hA : 0 < n → A = some ⟨b, off + 3, none⟩) : HasStep w B A n zs.tail := by
  obtain ⟨b', off', e, hb, hc⟩ := h.2 (by omega)
  simp only [Option.some.injEq, Addr.mk.injEq, and_true] at e
  obtain ⟨rfl, rfl⟩ := e
  refine ⟨by rw [List.length_tail, h.1]; rfl, fun hn => ⟨b, off + 3, hA hn, hb, fun j hj => ?_⟩⟩
  have := hc (3 + j) (by omega)
  rw [← Nat.add_assoc] at this
  rw [this]
  congr 1
  unfold flat
  have e1 : (3 + j) / 3 = j / 3 + 1 := by omega
  have e2 : (3 + j) % 3 = j % 3 := by omega
  rw [e1, e2]
  congr 1
  cases zs with
  | nil => simp
  | cons z t => simp
end Go.Proofs.YthpejolljkbenaaDoor
