
/- The steps of a path, as lists. -/
import Derived.Test.YtifhhfndoifbhaaGreatSStep
import Derived.Test.YtifhhfndoifbhaaGreatAppR
import Derived.Test.YtifhhfndoifbhaaGreatTurn
import Derived.Test.YtifhhfndoifbhaaGreatNPathPart
import Derived.Test.YtifhhfndoifbhaaGreatCPath
import Derived.Test.YtifhhfndoifbhaaGreatRow
import Derived.Deep.RegionHeld3
import Derived.BigQuiet
import Derived.Deep.QuietTactic
import Derived.Deep.CutRange
import Derived.Laws.StructEq
import Derived.ChangeKeysEq
import Derived.StillTailTactics
namespace Go.Proofs.YtifhhfndoifbhaaGreat
open Go Go.RowKit
set_option linter.unusedVariables false
theorem oneStep : ∀ (x : TStep) (j : Nat), (TStep.cell x j).oneCell' = true := fun x j => by unfold TStep.cell; split <;> rfl
def stOf (x : TPathPart) (k : Nat) : TStep := ⟨(x.hops.getD k default).nd, pInV x.kind x.hops x.hops.length k, pOutV x.kind x.hops x.hops.length k⟩
def stL (x : TPathPart) : Nat → List TStep
  | 0 => []
  | k + 1 => stL x k ++ [stOf x k]
theorem stL_len (x : TPathPart) : ∀ k, (stL x k).length = k
  | 0 => rfl
  | k + 1 => by rw [stL, List.length_append, stL_len x k]; rfl
def lastS (l : List TStep) : TStep := l.getD (l.length - 1) default
def meetB (l s : List TStep) : Bool := decide (0 < l.length) && (decide (0 < s.length) && ((lastS l).nd == (s.getD 0 default).nd))
def glueS (y z : TStep) : TStep := ⟨y.nd, y.ing, z.eg⟩
def joinS (l s : List TStep) : List TStep := if meetB l s = true then l.dropLast ++ (glueS (lastS l) (s.getD 0 default) :: s.tail) else l ++ s
theorem meet_pos {l s : List TStep} (h : meetB l s = true) : 0 < l.length ∧ 0 < s.length := by
  unfold meetB at h
  simp only [Bool.and_eq_true, decide_eq_true_eq] at h
  exact ⟨h.1, h.2.1⟩
theorem joinS_le (l s : List TStep) : (joinS l s).length ≤ l.length + s.length := by
  unfold joinS
  split
  · rename_i h
    have := meet_pos h
    simp only [List.length_append, List.length_dropLast, List.length_cons, List.length_tail]
    omega
  · rw [List.length_append]; omega
theorem joinS_snoc (l s : List TStep) (y : TStep) (hs : 0 < s.length) : joinS l (s ++ [y]) = joinS l s ++ [y] := by
  obtain ⟨z, t, rfl⟩ : ∃ z t, s = z :: t := by
    cases s with
    | nil => simp at hs
    | cons z t => exact ⟨z, t, rfl⟩
  have e : meetB l (z :: t ++ [y]) = meetB l (z :: t) := by simp [meetB]
  unfold joinS
  rw [e]
  split <;> simp
def stepsUp (ps : List TPathPart) : Nat → List TStep
  | 0 => []
  | k + 1 => joinS (stepsUp ps k) (stL (ps.getD k default) (ps.getD k default).hops.length)
theorem stepsUp_le (ps : List TPathPart) : ∀ k, (stepsUp ps k).length ≤ sumTo sePathPart ps k
  | 0 => Nat.le_refl _
  | k + 1 => by
    have h := stepsUp_le ps k
    have h2 := joinS_le (stepsUp ps k) (stL (ps.getD k default) (ps.getD k default).hops.length)
    rw [stL_len] at h2
    rw [stepsUp, sumTo]
    unfold sePathPart
    unfold sePathPart at h
    omega
def fin1 (l : List TStep) : List TStep := l.set 0 ⟨(l.getD 0 default).nd, 0, (l.getD 0 default).eg⟩
def fin2 (l : List TStep) : List TStep := l.set (l.length - 1) ⟨(lastS l).nd, (lastS l).ing, 0⟩
def finS (l : List TStep) : List TStep := if l.length = 0 then l else fin2 (fin1 l)
theorem fin1_len (l : List TStep) : (fin1 l).length = l.length := by simp [fin1]
theorem finS_len (l : List TStep) : (finS l).length = l.length := by
  unfold finS
  split
  · rfl
  · simp [fin2, fin1]
def pathSt (ps : List TPathPart) (n : Nat) : List TStep := finS (stepsUp ps n)
theorem pathSt_le (ps : List TPathPart) (n : Nat) : (pathSt ps n).length ≤ szPathPart ps n := by
  unfold pathSt
  rw [finS_len]
  have := stepsUp_le ps n
  unfold szPathPart
  omega
/-! A row of steps with one number turned. -/
theorem rowC_set (zs : List TStep) (i j : Nat) (x : TStep) (u : Value) (hi : i < zs.length) (hj : j < 3) (hx : ∀ q, q < 3 → TStep.cell x q = if q = j then u else TStep.cell (zs.getD i default) q) :
    (rowC 3 TStep.cell zs).set (i * 3 + j) u = rowC 3 TStep.cell (zs.set i x) := by
  apply List.ext_getElem?
  intro p
  by_cases hp : p < zs.length * 3
  · rw [rowC_get (by decide) (zs.set i x) p (by rw [List.length_set]; exact hp), List.getElem?_set]
    by_cases e : i * 3 + j = p
    · subst e
      rw [if_pos rfl, if_pos (by rw [rowC_len]; exact hp), flat_at _ i j hj]
      have h2 := hx j hj
      rw [if_pos rfl] at h2
      rw [show (zs.set i x).getD i default = x by simp [List.getD_eq_getElem?_getD, hi], h2]
    · rw [if_neg e, rowC_get (by decide) zs p hp]
      congr 1
      have e1 : p = p / 3 * 3 + p % 3 := by omega
      rw [e1, flat_at zs (p / 3) (p % 3) (by omega), flat_at (zs.set i x) (p / 3) (p % 3) (by omega)]
      by_cases e2 : p / 3 = i
      · have h2 := hx (p % 3) (by omega)
        rw [if_neg (by omega)] at h2
        rw [e2, show (zs.set i x).getD i default = x by simp [List.getD_eq_getElem?_getD, hi], h2]
      · rw [show (zs.set i x).getD (p / 3) default = zs.getD (p / 3) default by simp [List.getD_eq_getElem?_getD, Ne.symm e2]]
  · rw [List.getElem?_eq_none (by rw [List.length_set, rowC_len]; omega), List.getElem?_eq_none (by rw [rowC_len, List.length_set]; omega)]
theorem own_put3 {w : World} {lo g n c : Nat} {e : TypeId} {zs : List TStep} (h : w.ownsRow lo e 3 (.slice (some ⟨g, 0, none⟩) n c) n (rowC 3 TStep.cell zs)) (i : Nat) (hi : i < zs.length) (y : TStep) :
    (((w.setCell ⟨g, i * 3, none⟩ (.int .i64 y.nd)).setCell ⟨g, i * 3 + 1, none⟩ (.int .i64 y.ing)).setCell ⟨g, i * 3 + 2, none⟩ (.int .i64 y.eg)).ownsRow lo e 3 (.slice (some ⟨g, 0, none⟩) n c) n (rowC 3 TStep.cell (zs.set i y)) := by
  have e0 : ∀ (zs : List TStep) (x : TStep), i < zs.length → (zs.set i x).getD i default = x := fun zs x hi => by simp [List.getD_eq_getElem?_getD, hi]
  obtain ⟨h1, _⟩ := h.stored (i * 3 + 0) (.int .i64 y.nd)
  rw [rowC_set zs i 0 ⟨y.nd, (zs.getD i default).ing, (zs.getD i default).eg⟩ _ hi (by decide) (fun q hq => by
    match q, hq with
    | 0, _ => rfl
    | 1, _ => rfl
    | 2, _ => rfl)] at h1
  obtain ⟨h2, _⟩ := h1.stored (i * 3 + 1) (.int .i64 y.ing)
  rw [rowC_set _ i 1 ⟨y.nd, y.ing, (zs.getD i default).eg⟩ _ (by rw [List.length_set]; exact hi) (by decide) (fun q hq => by
    rw [e0 zs _ hi]
    match q, hq with
    | 0, _ => rfl
    | 1, _ => rfl
    | 2, _ => rfl)] at h2
  obtain ⟨h3, _⟩ := h2.stored (i * 3 + 2) (.int .i64 y.eg)
  rw [rowC_set _ i 2 y _ (by rw [List.length_set, List.length_set]; exact hi) (by decide) (fun q hq => by
    rw [e0 _ _ (by rw [List.length_set]; exact hi)]
    match q, hq with
    | 0, _ => rfl
    | 1, _ => rfl
    | 2, _ => rfl)] at h3
  rw [List.set_set, List.set_set] at h3
  exact h3
theorem rowC_take3 (zs : List TStep) (k : Nat) (hk : k ≤ zs.length) : (rowC 3 TStep.cell zs).take (k * 3) = rowC 3 TStep.cell (zs.take k) := by
  have e : rowC 3 TStep.cell zs = rowC 3 TStep.cell (zs.take k) ++ rowC 3 TStep.cell (zs.drop k) := by rw [← rowC_app, List.take_append_drop]
  rw [e, List.take_append_of_le_length (by rw [rowC_len, List.length_take, Nat.min_eq_left hk]; exact Nat.le_refl _), List.take_of_length_le (by rw [rowC_len, List.length_take, Nat.min_eq_left hk]; exact Nat.le_refl _)]
theorem ownsRow_pop {w : World} {lo g n m c : Nat} {e : TypeId} {zs : List TStep} (h : w.ownsRow lo e 3 (.slice (some ⟨g, 0, none⟩) n c) n (rowC 3 TStep.cell zs)) (hm : n = m + 1) : w.ownsRow lo e 3 (.slice (some ⟨g, 0, none⟩) m c) m (rowC 3 TStep.cell zs.dropLast) := by
  have hl := ownsRow_lenR (by decide) h
  refine ⟨by rw [rowC_len, List.length_dropLast]; omega, ?_⟩
  rcases h.2 with ⟨h', h0⟩ | ⟨g', cap, cur, h', hlo, hh, hn, hc, hs, ht⟩
  · omega
  · simp only [Value.slice.injEq, Option.some.injEq, Addr.mk.injEq, and_true, true_and] at h'
    obtain ⟨rfl, rfl⟩ := h'
    refine .inr ⟨g, c, cur, rfl, hlo, hh, by omega, hc, hs, ?_⟩
    have e : zs.dropLast = zs.take m := by rw [List.dropLast_eq_take, hl, hm]; rfl
    rw [e, ← rowC_take3 zs m (by omega), ← ht, List.take_take, Nat.min_eq_left (by omega)]
theorem own_setR {w : World} {lo n : Nat} {e : TypeId} {v : Value} {xs : List Value} (h : w.ownsRow lo e 3 v n xs) (p : Addr) (u : Value) (hp : ∀ q, v.ownBlock = some q → q ≠ p.block) : (w.setCell p u).ownsRow lo e 3 v n xs :=
  h.kept (row := some p.block) ⟨rfl, rfl, rfl, by simp [World.setCell], fun k _ hk => Below.heap_setCell w p u k (fun e => hk (by rw [e]))⟩ (by cases hv : v.ownBlock with | none => exact .inl rfl | some g => exact .inr (fun e => hp g hv (by injection e)))
theorem glue_set (l : List TStep) (y : TStep) (h : 0 < l.length) : l.set (l.length - 1) y = l.dropLast ++ [y] := by
  obtain ⟨i, z, rfl⟩ : ∃ i z, l = i ++ [z] := ⟨l.dropLast, l.getLast (by intro e; subst e; simp at h), (List.dropLast_concat_getLast _).symm⟩
  simp
theorem tail_row {w : World} {B n : Nat} {b off : Nat} {zs : List TStep} (h : HasStep w B (some ⟨b, off, none⟩) (n + 1) zs) (A : Option Addr) (hA : 0 < n → A = some ⟨b, off + 3, none⟩) : HasStep w B A n zs.tail := by
  obtain ⟨b', off', e, hb, hc⟩ := h.2 (by omega)
  simp only [Option.some.injEq, Addr.mk.injEq, and_true] at e
  obtain ⟨rfl, rfl⟩ := e
  refine ⟨by rw [List.length_tail, h.1]; rfl, fun hn => ⟨b, off + 3, hA hn, hb, fun j hj => ?_⟩⟩
  have := hc (3 + j) (by omega)
  rw [← Nat.add_assoc] at this
  rw [this]
  congr 1
  unfold flat
  have e1 : (3 + j) / 3 = j / 3 + 1 := by omega
  have e2 : (3 + j) % 3 = j % 3 := by omega
  rw [e1, e2]
  congr 1
  cases zs with
  | nil => simp
  | cons z t => simp
end Go.Proofs.YtifhhfndoifbhaaGreat
namespace Go.Proofs.YtifhhfndoifbhaaGreat
open Go.ChangeShapes Go.WideShapes Go.ChangeAt Go.RowKit
set_option linter.unusedVariables false
def addS (i k : Nat) (l : List TStep) (s : TStep) : List TStep := if 0 < i ∧ k = 0 ∧ meetB l [s] = true then l.dropLast ++ [⟨s.nd, (lastS l).ing, s.eg⟩] else l ++ [s]
theorem join_nil (l : List TStep) : joinS l [] = l := by
  unfold joinS
  rw [if_neg (by simp [meetB])]
  simp
theorem addS_join (ps : List TPathPart) (i k : Nat) (x : TPathPart) : joinS (stepsUp ps i) (stL x (k + 1)) = addS i k (joinS (stepsUp ps i) (stL x k)) (stOf x k) := by
  rw [stL]
  rcases Nat.eq_zero_or_pos k with h0 | h0
  · subst h0
    rw [show stL x 0 = [] from rfl, List.nil_append, join_nil]
    unfold joinS addS
    by_cases hm : meetB (stepsUp ps i) [stOf x 0] = true
    · have hi : 0 < i := by
        rcases Nat.eq_zero_or_pos i with h1 | h1
        · subst h1
          simp [stepsUp, meetB] at hm
        · exact h1
      rw [if_pos hm, if_pos ⟨hi, rfl, hm⟩]
      have he : (lastS (stepsUp ps i)).nd = (stOf x 0).nd := by
        unfold meetB at hm
        simp only [Bool.and_eq_true, beq_iff_eq] at hm
        exact hm.2.2
      simp only [glueS, he]
      rfl
    · rw [if_neg hm, if_neg (fun h => hm h.2.2)]
  · rw [joinS_snoc _ _ _ (by rw [stL_len]; exact h0)]
    unfold addS
    rw [if_neg (fun h => by omega)]
theorem newbox {w w' : World} {t : TypeId} (m : Mk0 (w.alloc (.cells #[.int .i64 0, .int .i64 0, .int .i64 0] t)) w') : w'.cell? ⟨w.heap.size, 0, none⟩ = some (.int .i64 0) ∧ w'.cell? ⟨w.heap.size, 1, none⟩ = some (.int .i64 0) ∧ w'.cell? ⟨w.heap.size, 2, none⟩ = some (.int .i64 0) ∧ w'.frozen? ⟨w.heap.size, 0, none⟩ = false ∧ w'.frozen? ⟨w.heap.size, 1, none⟩ = false ∧ w'.frozen? ⟨w.heap.size, 2, none⟩ = false := by
  have c : ∀ j, j < 3 → (w.alloc (.cells #[.int .i64 0, .int .i64 0, .int .i64 0] t)).cell? ⟨w.heap.size, j, none⟩ = some (.int .i64 0) := fun j hj => by
    rw [World.cell?_alloc_at _ _ _ _ rfl]
    match j, hj with
    | 0, _ => rfl
    | 1, _ => rfl
    | 2, _ => rfl
  have f : ∀ j, (w.alloc (.cells #[.int .i64 0, .int .i64 0, .int .i64 0] t)).frozen? ⟨w.heap.size, j, none⟩ = false := fun j => by simp [go_sem]
  exact ⟨m.cellAt (c 0 (by decide)), m.cellAt (c 1 (by decide)), m.cellAt (c 2 (by decide)), m.frozenAt (c 0 (by decide)) (f 0), m.frozenAt (c 1 (by decide)) (f 1), m.frozenAt (c 2 (by decide)) (f 2)⟩
theorem newboxA {W0 w' : World} (m : Mk0 W0 w') : (∀ w : World, W0 = w.alloc (.cells #[.int .i64 0, .int .i64 0, .int .i64 0] 91) → w'.cell? ⟨w.heap.size, 0, none⟩ = some (.int .i64 0)) ∧ (∀ w : World, W0 = w.alloc (.cells #[.int .i64 0, .int .i64 0, .int .i64 0] 91) → w'.cell? ⟨w.heap.size, 1, none⟩ = some (.int .i64 0)) ∧ (∀ w : World, W0 = w.alloc (.cells #[.int .i64 0, .int .i64 0, .int .i64 0] 91) → w'.cell? ⟨w.heap.size, 2, none⟩ = some (.int .i64 0)) ∧ (∀ w : World, W0 = w.alloc (.cells #[.int .i64 0, .int .i64 0, .int .i64 0] 91) → ∀ j, w'.frozen? ⟨w.heap.size, j, none⟩ = false) ∧ (∀ w : World, W0 = w.alloc (.cells #[.int .i64 0, .int .i64 0, .int .i64 0] 91) → w.heap.size < w'.heap.size) := by
  have hs : ∀ w : World, W0 = w.alloc (.cells #[.int .i64 0, .int .i64 0, .int .i64 0] 91) → w.heap.size < w'.heap.size := fun w e => by
    subst e
    have := m.size
    rw [World.size_alloc] at this
    omega
  refine ⟨fun w e => ?_, fun w e => ?_, fun w e => ?_, fun w e j => ?_, hs⟩
  · subst e; exact (newbox m).1
  · subst e; exact (newbox m).2.1
  · subst e; exact (newbox m).2.2.1
  · subst e
    rw [m.frozen (by rw [World.size_alloc]; omega) (.inr (Nat.zero_le _))]
    simp [go_sem]
theorem newboxC {W0 w' : World} (m : Mk0 W0 w') (w : World) : (W0 = (w.alloc (.cells #[.int .i64 0, .int .i64 0, .int .i64 0] 91)).drew → w'.cell? ⟨w.heap.size, 0, none⟩ = some (.int .i64 0)) ∧ (W0 = (w.alloc (.cells #[.int .i64 0, .int .i64 0, .int .i64 0] 91)).drew → w'.cell? ⟨w.heap.size, 1, none⟩ = some (.int .i64 0)) ∧ (W0 = (w.alloc (.cells #[.int .i64 0, .int .i64 0, .int .i64 0] 91)).drew → w'.cell? ⟨w.heap.size, 2, none⟩ = some (.int .i64 0)) ∧ (W0 = (w.alloc (.cells #[.int .i64 0, .int .i64 0, .int .i64 0] 91)).drew → ∀ j, w'.frozen? ⟨w.heap.size, j, none⟩ = false) ∧ (W0 = (w.alloc (.cells #[.int .i64 0, .int .i64 0, .int .i64 0] 91)).drew → w.heap.size < w'.heap.size) :=
  ⟨fun e => (newboxA m).1 w.drew e, fun e => (newboxA m).2.1 w.drew e, fun e => (newboxA m).2.2.1 w.drew e, fun e j => (newboxA m).2.2.2.1 w.drew e j, fun e => (newboxA m).2.2.2.2 w.drew e⟩
theorem newboxE {W0 wp W1 wq : World} (mp : Mk0 W0 wp) (mq : Mk0 W1 wq) (w : World) : (W0 = (w.alloc (.cells #[.int .i64 0, .int .i64 0, .int .i64 0] 91)).drew → W1 = wp → wq.cell? ⟨w.heap.size, 0, none⟩ = some (.int .i64 0)) ∧ (W0 = (w.alloc (.cells #[.int .i64 0, .int .i64 0, .int .i64 0] 91)).drew → W1 = wp → wq.cell? ⟨w.heap.size, 1, none⟩ = some (.int .i64 0)) ∧ (W0 = (w.alloc (.cells #[.int .i64 0, .int .i64 0, .int .i64 0] 91)).drew → W1 = wp → wq.cell? ⟨w.heap.size, 2, none⟩ = some (.int .i64 0)) ∧ (W0 = (w.alloc (.cells #[.int .i64 0, .int .i64 0, .int .i64 0] 91)).drew → W1 = wp → wq.frozen? ⟨w.heap.size, 0, none⟩ = false) ∧ (W0 = (w.alloc (.cells #[.int .i64 0, .int .i64 0, .int .i64 0] 91)).drew → W1 = wp → wq.frozen? ⟨w.heap.size, 1, none⟩ = false) ∧ (W0 = (w.alloc (.cells #[.int .i64 0, .int .i64 0, .int .i64 0] 91)).drew → W1 = wp → wq.frozen? ⟨w.heap.size, 2, none⟩ = false) ∧ (W0 = (w.alloc (.cells #[.int .i64 0, .int .i64 0, .int .i64 0] 91)).drew → W1 = wp → wq.cell? ⟨w.drew.heap.size, 0, none⟩ = some (.int .i64 0)) ∧ (W0 = (w.alloc (.cells #[.int .i64 0, .int .i64 0, .int .i64 0] 91)).drew → W1 = wp → wq.cell? ⟨w.drew.heap.size, 1, none⟩ = some (.int .i64 0)) ∧ (W0 = (w.alloc (.cells #[.int .i64 0, .int .i64 0, .int .i64 0] 91)).drew → W1 = wp → wq.cell? ⟨w.drew.heap.size, 2, none⟩ = some (.int .i64 0)) ∧ (W0 = (w.alloc (.cells #[.int .i64 0, .int .i64 0, .int .i64 0] 91)).drew → W1 = wp → wq.frozen? ⟨w.drew.heap.size, 0, none⟩ = false) ∧ (W0 = (w.alloc (.cells #[.int .i64 0, .int .i64 0, .int .i64 0] 91)).drew → W1 = wp → wq.frozen? ⟨w.drew.heap.size, 1, none⟩ = false) ∧ (W0 = (w.alloc (.cells #[.int .i64 0, .int .i64 0, .int .i64 0] 91)).drew → W1 = wp → wq.frozen? ⟨w.drew.heap.size, 2, none⟩ = false) := by
  have a : W0 = (w.alloc (.cells #[.int .i64 0, .int .i64 0, .int .i64 0] 91)).drew → W1 = wp → ∀ j, j < 3 → wq.cell? ⟨w.drew.heap.size, j, none⟩ = some (.int .i64 0) ∧ wq.frozen? ⟨w.drew.heap.size, j, none⟩ = false := fun e e1 j hj => by
    subst e1
    have n := newboxA (mp.trans mq)
    match j, hj with
    | 0, _ => exact ⟨n.1 w.drew e, n.2.2.2.1 w.drew e 0⟩
    | 1, _ => exact ⟨n.2.1 w.drew e, n.2.2.2.1 w.drew e 1⟩
    | 2, _ => exact ⟨n.2.2.1 w.drew e, n.2.2.2.1 w.drew e 2⟩
  exact ⟨fun e e1 => (a e e1 0 (by decide)).1, fun e e1 => (a e e1 1 (by decide)).1, fun e e1 => (a e e1 2 (by decide)).1, fun e e1 => (a e e1 0 (by decide)).2, fun e e1 => (a e e1 1 (by decide)).2, fun e e1 => (a e e1 2 (by decide)).2, fun e e1 => (a e e1 0 (by decide)).1, fun e e1 => (a e e1 1 (by decide)).1, fun e e1 => (a e e1 2 (by decide)).1, fun e e1 => (a e e1 0 (by decide)).2, fun e e1 => (a e e1 1 (by decide)).2, fun e e1 => (a e e1 2 (by decide)).2⟩
theorem keep3 {wr w' : World} {g : Nat} {u0 u1 u2 : Value} (h : Mk0 wr w') (hg : wr.heap.size ≤ g) : Mk0 wr (((w'.setCell ⟨g, 0, none⟩ u0).setCell ⟨g, 1, none⟩ u1).setCell ⟨g, 2, none⟩ u2) ∧ ∀ b o v, b < wr.heap.size → w'.cell? ⟨b, o, none⟩ = some v → (((w'.setCell ⟨g, 0, none⟩ u0).setCell ⟨g, 1, none⟩ u1).setCell ⟨g, 2, none⟩ u2).cell? ⟨b, o, none⟩ = some v :=
  ⟨((h.put _ _ hg).put _ _ hg).put _ _ hg, fun b o v hb hv => cell_set (cell_set (cell_set hv _ _ (.inl (by simp only; omega))) _ _ (.inl (by simp only; omega))) _ _ (.inl (by simp only; omega))⟩
theorem swapA {wr w1 : World} {o o' : Obj} (h : Mk0 wr (w1.alloc o)) (hg : wr.heap.size ≤ w1.heap.size) : Mk0 wr (w1.alloc o') ∧ ∀ b q v, b < wr.heap.size → (w1.alloc o).cell? ⟨b, q, none⟩ = some v → (w1.alloc o').cell? ⟨b, q, none⟩ = some v := by
  have e : ∀ k, k < w1.heap.size → (w1.alloc o').heap[k]? = (w1.alloc o).heap[k]? := fun k hk =>
    ((Mk.alloc w1 o').block k hk (.inr (Nat.zero_le _))).trans ((Mk.alloc w1 o).block k hk (.inr (Nat.zero_le _))).symm
  refine ⟨⟨h.os, h.tape, h.output, by rw [World.size_alloc]; omega, fun k hk hr => (e k (by omega)).trans (h.block k hk hr)⟩, fun b q v hb hv => ?_⟩
  rw [World.cell?_of_block (w := w1.alloc o) (e b (by omega))]
  exact hv
theorem vals3 {w' : World} {g : Nat} {u0 u1 u2 v0 v1 v2 : Value} (h0 : w'.cell? ⟨g, 0, none⟩ = some v0) (h1 : w'.cell? ⟨g, 1, none⟩ = some v1) (h2 : w'.cell? ⟨g, 2, none⟩ = some v2) (hf : w'.frozen? ⟨g, 1, none⟩ = false) :
    (((w'.setCell ⟨g, 0, none⟩ u0).setCell ⟨g, 1, none⟩ u1).setCell ⟨g, 2, none⟩ u2).cell? ⟨g, 0, none⟩ = some u0 ∧ (((w'.setCell ⟨g, 0, none⟩ u0).setCell ⟨g, 1, none⟩ u1).setCell ⟨g, 2, none⟩ u2).cell? ⟨g, 1, none⟩ = some u1 ∧ (((w'.setCell ⟨g, 0, none⟩ u0).setCell ⟨g, 1, none⟩ u1).setCell ⟨g, 2, none⟩ u2).cell? ⟨g, 2, none⟩ = some u2 ∧ (((w'.setCell ⟨g, 0, none⟩ u0).setCell ⟨g, 1, none⟩ u1).setCell ⟨g, 2, none⟩ u2).frozen? ⟨g, 1, none⟩ = false :=
  ⟨cell_set (cell_set (World.cell?_setCell_same _ _ _ h0) _ _ (.inr (by simp))) _ _ (.inr (by simp)), cell_set (World.cell?_setCell_same _ _ _ (cell_set h1 _ _ (.inr (by simp)))) _ _ (.inr (by simp)), World.cell?_setCell_same _ _ _ (cell_set (cell_set h2 _ _ (.inr (by simp))) _ _ (.inr (by simp))), frozen_set (frozen_set (frozen_set hf _ _) _ _) _ _⟩
set_option maxRecDepth 100000 in
set_option maxHeartbeats 4000000 in
theorem specPathSteps (a : Option Addr) (n c B : Nat) (ps : List TPathPart) (w : World) (h : HasPathPart w B a n ps) (hB : B ≤ w.heap.size) (hn : szPathPart ps n ≤ 1048576) :
    Calls Tryz.prog 55 #[.agg #[.slice a n c]] w (OutRows 3 TStep.cell w (pathSt ps n)) := by
  have hn0 : n ≤ 1048576 := Nat.le_trans (szPathPart_n ps n) hn
  have M0 := Mk.alloc w (Obj.cells #[Value.slice a n c] 39)
  obtain ⟨i0, hi0, hz0, hz1, hz2⟩ := info_parts infoRStep
  go_enter Tryz.func55, Tryz.ntmps55
  go_wp2_with fail
  have hl0 := own_emptyR (w.alloc (Obj.cells #[Value.slice a n c] 39)) 91 3
  have ML := Mk.alloc (w.alloc (Obj.cells #[Value.slice a n c] 39)) (.cells #[] 91)
  go_loopw [3, 4] (fun v i wr => ∃ k : Nat, k ≤ n ∧ i = .int .i64 k ∧ wr.ownsRow (w.alloc (Obj.cells #[Value.slice a n c] 39)).heap.size 91 3 v (stepsUp ps k).length (rowC 3 TStep.cell (stepsUp ps k)) ∧ Mk0 (w.alloc (Obj.cells #[Value.slice a n c] 39)) wr) (fun _ i _ => n - (intOf i).toNat)
  case atStart => exact ⟨0, Nat.zero_le _, rfl, by simpa [stepsUp, rowC] using hl0, ML⟩
  case round =>
    clear hl0 ML
    obtain ⟨k, hk, rfl, hown, hM⟩ := hrel
    have k0 := hM.cellAt (b := w.heap.size) (o := 0) (v := .slice a n c) (by simp [go_sem])
    have hM' := M0.trans hM
    have hbd := stepsUp_le ps k
    have hbd2 := sumTo_le sePathPart ps hk
    by_cases hlt : k < n
    · obtain ⟨X, hX⟩ : ∃ X, Hid (X = ps.getD k default) := ⟨_, rfl⟩
      obtain ⟨N3, hN3⟩ : ∃ N, Hid (X.hops.length = N) := ⟨_, rfl⟩
      have hs3 : sumTo sePathPart ps k + N3 ≤ 1048576 := by
        have h1 := sumTo_le sePathPart ps (show k + 1 ≤ n from hlt)
        rw [sumTo, ← hX.out] at h1
        unfold sePathPart at h1
        rw [hN3.out] at h1
        unfold szPathPart sePathPart at hn
        unfold sePathPart
        omega
      have HE0 := Lib.hid (show stepsUp ps (k + 1) = joinS (stepsUp ps k) (stL X N3) by rw [stepsUp, ← hX.out, hN3.out])
      go_wp2_with fail
      go_loopw [3, 5] (fun v i wi => ∃ j : Nat, j ≤ N3 ∧ i = .int .i64 j ∧ wi.ownsRow (w.alloc (Obj.cells #[Value.slice a n c] 39)).heap.size 91 3 v (joinS (stepsUp ps k) (stL X j)).length (rowC 3 TStep.cell (joinS (stepsUp ps k) (stL X j))) ∧ Mk0 (w.alloc (Obj.cells #[Value.slice a n c] 39)) wi) (fun _ i _ => N3 - (intOf i).toNat)
      case atStart => exact ⟨0, Nat.zero_le _, rfl, by rw [show stL X 0 = [] from rfl, join_nil]; exact hown, hM⟩
      case round =>
        clear hown hM' hM k0
        obtain ⟨j, hj, rfl, hown, hM⟩ := hrel
        have hM' := M0.trans hM
        have k0 := hM.cellAt (b := w.heap.size) (o := 0) (v := .slice a n c) (by simp [go_sem])
        have hbd3 := joinS_le (stepsUp ps k) (stL X j)
        rw [stL_len] at hbd3
        obtain ⟨L, hL⟩ : ∃ L, Hid (L = (joinS (stepsUp ps k) (stL X j)).length) := ⟨_, rfl⟩
        rw [← hL.out] at hown hbd3
        obtain ⟨A, cc, rfl, hA0⟩ := ownsRow_sliceR hown
        obtain ⟨b, off, x, rfl, hb, hx, a3, n3, c3, d0, d1, d2, d3, r3, m3, t3, z3⟩ := HasPathPart.at _ _ _ _ _ _ (h.mk hM' hB (.inr (Nat.le_refl _))) hlt
        obtain rfl : x = X := hx.out.trans hX.out.symm
        obtain rfl : n3 = N3 := r3.1.symm.trans hN3.out
        by_cases hlj : j < n3
        · obtain ⟨b2, off2, y, rfl, hb2, hy, f0, f1, f2, f3, f4⟩ := HasHop.at _ _ _ _ _ _ r3 hlj
          have hbr := World.block_lt_of_cell? _ _ d0
          simp only at hbr
          have hbw := World.block_lt_of_cell? _ _ k0
          simp only at hbw
          have hby := World.block_lt_of_cell? _ _ f0
          simp only at hby
          have q1 : (0 : Int) ≤ (k : Int) := by omega
          have q2 : (k : Int) < (n : Int) := by omega
          have q3 : (0 : Int) ≤ (j : Int) := by omega
          have q4 : (j : Int) < (n3 : Int) := by omega
          have e6 : stOf x j = ⟨y.nd, pInV x.kind x.hops n3 j, pOutV x.kind x.hops n3 j⟩ := by unfold stOf; rw [← hy.out, hN3.out]
          obtain ⟨PI, hPI⟩ : ∃ v, Hid (v = pInV x.kind x.hops n3 j) := ⟨_, rfl⟩
          obtain ⟨PO, hPO⟩ : ∃ v, Hid (v = pOutV x.kind x.hops n3 j) := ⟨_, rfl⟩
          have E6 := Lib.hid (show stOf x j = ⟨y.nd, PI, PO⟩ by rw [e6, hPI.out, hPO.out])
          clear e6
          have hBr := Nat.le_trans hB hM'.size
          go_upto_region 8 with fail
          go_cut [6] from 18 to 91 (fun s wq => ∃ g, s = .pointer (some ⟨g, 0, none⟩) ∧ wr.heap.size ≤ g ∧ wq.cell? ⟨g, 0, none⟩ = some (.int .i64 y.nd) ∧ wq.cell? ⟨g, 1, none⟩ = some (.int .i64 PI) ∧ wq.cell? ⟨g, 2, none⟩ = some (.int .i64 PO) ∧ wq.frozen? ⟨g, 1, none⟩ = false ∧ Mk0 wr wq)
          case first =>
            have cPI : ∀ w', Mk0 wr w' → Calls Tryz.prog 80 #[.agg #[.int .i64 x.kind, .int .i64 x.ts, .int .i64 x.beta, .slice (some ⟨b2, off2, none⟩) n3 c3], .int .i64 j] w' (fun e w'' => e = .returned (.int .i64 PI) ∧ Mk0 w' w'') := fun w' m => by
              rw [hPI.out]
              exact specPIn _ _ _ _ _ _ B x.hops _ _ (r3.mk m hBr (.inr (Nat.le_refl _))) (Nat.le_trans hBr m.size) (by omega)
            have cPO : ∀ w', Mk0 wr w' → Calls Tryz.prog 79 #[.agg #[.int .i64 x.kind, .int .i64 x.ts, .int .i64 x.beta, .slice (some ⟨b2, off2, none⟩) n3 c3], .int .i64 j] w' (fun e w'' => e = .returned (.int .i64 PO) ∧ Mk0 w' w'') := fun w' m => by
              rw [hPO.out]
              exact specPOut _ _ _ _ _ _ B x.hops _ _ (r3.mk m hBr (.inr (Nat.le_refl _))) (Nat.le_trans hBr m.size) (by omega)
            have hd : wr.drew.heap.size = wr.heap.size := rfl
            go_region_held3 (fun w' => Mk0 wr w' ∧ w'.cell? ⟨w.heap.size, 0, none⟩ = some (.slice (some ⟨b, off, none⟩) n c) ∧ w'.cell? ⟨b, off + k * 4, none⟩ = some (.int .i64 x.kind) ∧ w'.cell? ⟨b, off + k * 4 + 1, none⟩ = some (.int .i64 x.ts) ∧ w'.cell? ⟨b, off + k * 4 + 2, none⟩ = some (.int .i64 x.beta) ∧ w'.cell? ⟨b, off + k * 4 + 3, none⟩ = some (.slice (some ⟨b2, off2, none⟩) n3 c3) ∧ w'.cell? ⟨b2, off2 + j * 5, none⟩ = some (.int .i64 y.nd)) (first | exact ⟨Mk.drew1 _, k0, d0, d1, d2, d3, f0⟩ | (obtain ⟨s0, s1, s2, s3, s4, s5, s6⟩ := ‹Mk0 wr _ ∧ _›; first | exact ⟨s0.trans mm, mm.cellAt s1, mm.cellAt s2, mm.cellAt s3, mm.cellAt s4, mm.cellAt s5, mm.cellAt s6⟩ | exact ⟨s0.trans (Mk.alloc _ _), (Mk.alloc _ _).cellAt s1, (Mk.alloc _ _).cellAt s2, (Mk.alloc _ _).cellAt s3, (Mk.alloc _ _).cellAt s4, (Mk.alloc _ _).cellAt s5, (Mk.alloc _ _).cellAt s6⟩ | exact ⟨(swapA s0 (by omega)).1, (swapA s0 (by omega)).2 _ _ _ hbw s1, (swapA s0 (by omega)).2 _ _ _ hbr s2, (swapA s0 (by omega)).2 _ _ _ hbr s3, (swapA s0 (by omega)).2 _ _ _ hbr s4, (swapA s0 (by omega)).2 _ _ _ hbr s5, (swapA s0 (by omega)).2 _ _ _ hby s6⟩ | exact ⟨(keep3 s0 (by omega)).1, (keep3 s0 (by omega)).2 _ _ _ hbw s1, (keep3 s0 (by omega)).2 _ _ _ hbr s2, (keep3 s0 (by omega)).2 _ _ _ hbr s3, (keep3 s0 (by omega)).2 _ _ _ hbr s4, (keep3 s0 (by omega)).2 _ _ _ hbr s5, (keep3 s0 (by omega)).2 _ _ _ hby s6⟩)) (first | (go_at_call 80; with_reducible refine (cPI _ (‹Mk0 wr _ ∧ _›).1).mono ?_; rintro e wp ⟨rfl, mp⟩; have mm := mp; have zp := mm.size; have np := newboxA mp; have np2 := newboxC mp wr; obtain ⟨qp, rp⟩ := mp.kept) | (go_at_call 79; with_reducible refine (cPO _ (‹Mk0 wr _ ∧ _›).1).mono ?_; rintro e wq ⟨rfl, mq⟩; have mm := mq; have zq := mm.size; have nq := newboxA mq; have nq2 := newboxC mq wr; have nq3 := newboxE mp mq wr; obtain ⟨qq, rq⟩ := mq.kept))
            all_goals (try go_wp2_with fail)
            all_goals go_meet
            all_goals first
              | exact ⟨_, rfl, by omega, by simp [go_sem], by simp [go_sem], by simp [go_sem], by simp [go_sem], (‹Mk0 wr _ ∧ _›).1⟩
              | exact ⟨_, rfl, by omega, (vals3 ((newboxA mq).1 wp rfl) ((newboxA mq).2.1 wp rfl) ((newboxA mq).2.2.1 wp rfl) ((newboxA mq).2.2.2.1 wp rfl 1)).1, (vals3 ((newboxA mq).1 wp rfl) ((newboxA mq).2.1 wp rfl) ((newboxA mq).2.2.1 wp rfl) ((newboxA mq).2.2.2.1 wp rfl 1)).2.1, (vals3 ((newboxA mq).1 wp rfl) ((newboxA mq).2.1 wp rfl) ((newboxA mq).2.2.1 wp rfl) ((newboxA mq).2.2.2.1 wp rfl 1)).2.2.1, (vals3 ((newboxA mq).1 wp rfl) ((newboxA mq).2.1 wp rfl) ((newboxA mq).2.2.1 wp rfl) ((newboxA mq).2.2.2.1 wp rfl 1)).2.2.2, (‹Mk0 wr _ ∧ _›).1⟩
              | exact ⟨_, rfl, Nat.le_refl _, (vals3 ((newboxE mp mq wr).1 rfl rfl) ((newboxE mp mq wr).2.1 rfl rfl) ((newboxE mp mq wr).2.2.1 rfl rfl) ((newboxE mp mq wr).2.2.2.2.1 rfl rfl)).1, (vals3 ((newboxE mp mq wr).1 rfl rfl) ((newboxE mp mq wr).2.1 rfl rfl) ((newboxE mp mq wr).2.2.1 rfl rfl) ((newboxE mp mq wr).2.2.2.2.1 rfl rfl)).2.1, (vals3 ((newboxE mp mq wr).1 rfl rfl) ((newboxE mp mq wr).2.1 rfl rfl) ((newboxE mp mq wr).2.2.1 rfl rfl) ((newboxE mp mq wr).2.2.2.2.1 rfl rfl)).2.2.1, (vals3 ((newboxE mp mq wr).1 rfl rfl) ((newboxE mp mq wr).2.1 rfl rfl) ((newboxE mp mq wr).2.2.1 rfl rfl) ((newboxE mp mq wr).2.2.2.2.1 rfl rfl)).2.2.2, (‹Mk0 wr _ ∧ _›).1⟩
          case rest =>
            obtain ⟨g, rfl, hg, e0, e1, e2, ef, m8⟩ := hcut
            have hM8 := hM.trans m8
            have ho8 := own_keptR hown m8
            have hgw := World.block_lt_of_cell? _ _ e0
            simp only at hgw
            rcases Nat.eq_zero_or_pos k with hk0 | hk0
            · have d1 : decide (0 < k) = false := by simp; omega
              have HK := Lib.hid hk0
              clear hk0
              have HE := Lib.hid (show joinS (stepsUp ps k) (stL x (j + 1)) = joinS (stepsUp ps k) (stL x j) ++ [⟨y.nd, PI, PO⟩] by rw [addS_join, E6.out]; unfold addS; rw [if_neg (fun h => by have := HK.out; omega)])
              go_wp2_with fail
              go_quiet (fail)
              have hh3 : ∀ W : World, HasStep (W.alloc (.cells #[Value.int .i64 y.nd, Value.int .i64 PI, Value.int .i64 PO] 91)) (W.alloc (.cells #[Value.int .i64 y.nd, Value.int .i64 PI, Value.int .i64 PO] 91)).heap.size (some ⟨W.heap.size, 0, none⟩) 1 [⟨y.nd, PI, PO⟩] := fun W => hasR_new (cell := TStep.cell) (nc := 3) (by decide) W 91 ⟨y.nd, PI, PO⟩ _ (fun j hj => by match j, hj with | 0, _ => rfl | 1, _ => rfl | 2, _ => rfl)
              go_wp2_with (at_builtin; refine wpList_appR (by decide) oneStep rfl (.tmp 88) (.tmp 90) 88 rfl _ 91 i0 _ Tryz.underlying88 hi0 hz0 rfl hz1 (by rw [hz2]; decide) _ _ L rfl (own_keptR (own_keptR ho8 (Mk.drewN wc _)) (Mk.alloc _ _)) _ 1 1 [⟨y.nd, PI, PO⟩] rfl (fun h => by cases h) (hh3 _) (by omega) ((hM8.trans (Mk.drewN _ _)).trans (Mk.alloc _ _)).size ?_; intro v2 w3 hown2 hgr2)
              have M9 := ((hM8.trans (Mk.drewN _ _)).trans (Mk.alloc _ _)).appR hgr2 (fun q hq => (ho8.lt q hq).1)
              go_wp2_with fail
              go_roundw
              case rel => first | exact ⟨j + 1, by omega, by go_num, by rw [HE.out, List.length_append, ← hL.out]; exact hown2, M9⟩ | ((repeat apply Exists.intro); exact ⟨⟨j + 1, by omega, by go_num, by rw [HE.out, List.length_append, ← hL.out]; exact hown2, M9⟩, rfl⟩)
              case measure => simp [intOf]; omega
            · have d1 : decide (0 < k) = true := by simp; omega
              have u1 : 0 < k := by omega
              by_cases hj0 : j = 0
              · have HJ := Lib.hid hj0
                have d2 : ((j : Int) == 0) = true := by simp; omega
                have d3 : (j == 0) = true := by simp; omega
                clear hj0
                rcases Nat.eq_zero_or_pos L with hL0 | hL0
                · have d4 : decide (0 < L) = false := by simp; omega
                  have HL0 := Lib.hid hL0
                  clear hL0
                  have HE := Lib.hid (show joinS (stepsUp ps k) (stL x (j + 1)) = joinS (stepsUp ps k) (stL x j) ++ [⟨y.nd, PI, PO⟩] by rw [addS_join, E6.out]; unfold addS; rw [if_neg (fun h => by have h2 := (meet_pos h.2.2).1; rw [← hL.out] at h2; have := HL0.out; omega)])
                  go_wp2_with fail
                  go_quiet (fail)
                  have hh3 : ∀ W : World, HasStep (W.alloc (.cells #[Value.int .i64 y.nd, Value.int .i64 PI, Value.int .i64 PO] 91)) (W.alloc (.cells #[Value.int .i64 y.nd, Value.int .i64 PI, Value.int .i64 PO] 91)).heap.size (some ⟨W.heap.size, 0, none⟩) 1 [⟨y.nd, PI, PO⟩] := fun W => hasR_new (cell := TStep.cell) (nc := 3) (by decide) W 91 ⟨y.nd, PI, PO⟩ _ (fun j hj => by match j, hj with | 0, _ => rfl | 1, _ => rfl | 2, _ => rfl)
                  go_wp2_with (at_builtin; refine wpList_appR (by decide) oneStep rfl (.tmp 88) (.tmp 90) 88 rfl _ 91 i0 _ Tryz.underlying88 hi0 hz0 rfl hz1 (by rw [hz2]; decide) _ _ L rfl (own_keptR (own_keptR ho8 (Mk.drewN wc _)) (Mk.alloc _ _)) _ 1 1 [⟨y.nd, PI, PO⟩] rfl (fun h => by cases h) (hh3 _) (by omega) ((hM8.trans (Mk.drewN _ _)).trans (Mk.alloc _ _)).size ?_; intro v2 w3 hown2 hgr2)
                  have M9 := ((hM8.trans (Mk.drewN _ _)).trans (Mk.alloc _ _)).appR hgr2 (fun q hq => (ho8.lt q hq).1)
                  go_wp2_with fail
                  go_roundw
                  case rel => first | exact ⟨j + 1, by omega, by go_num, by rw [HE.out, List.length_append, ← hL.out]; exact hown2, M9⟩ | ((repeat apply Exists.intro); exact ⟨⟨j + 1, by omega, by go_num, by rw [HE.out, List.length_append, ← hL.out]; exact hown2, M9⟩, rfl⟩)
                  case measure => simp [intOf]; omega
                · have d4 : decide (0 < L) = true := by simp; omega
                  obtain ⟨m, hmL⟩ : ∃ m, Hid (L = m + 1) := ⟨L - 1, by show L = L - 1 + 1; omega⟩
                  obtain ⟨g2, rfl⟩ : ∃ g, A = some ⟨g, 0, none⟩ := by
                    rcases hown.2 with ⟨h', h0⟩ | ⟨g, cap, cur, h', _⟩
                    · omega
                    · simp only [Value.slice.injEq] at h'
                      exact ⟨g, h'.1⟩
                  have hg2 := hown.lt g2 rfl
                  obtain ⟨z, hz⟩ : ∃ z, Hid (z = lastS (joinS (stepsUp ps k) (stL x j))) := ⟨_, rfl⟩
                  have hlast : ∀ q, q < 3 → wc.cell? ⟨g2, m * 3 + q, none⟩ = some (TStep.cell z q) := fun q hq => by
                    have hh := hmL.out
                    have hh2 := hL.out
                    rw [ho8.cellAt (m * 3 + q) (by omega), rowC_get (by decide) _ _ (by omega), flat_at _ m q hq, hz.out]
                    unfold lastS
                    rw [← hh2, hh]
                    rfl
                  have l0 : wc.cell? ⟨g2, m * 3, none⟩ = some (.int .i64 z.nd) := hlast 0 (by decide)
                  have l1 : wc.cell? ⟨g2, m * 3 + 1, none⟩ = some (.int .i64 z.ing) := hlast 1 (by decide)
                  clear hlast
                  have hw : IntKind.i64.wrap ((L : Int) - 1) = (m : Int) := by have := hmL.out; rw [show (L : Int) - 1 = (m : Int) by omega]; rw [IntKind.wrap_i64]; omega
                  have i1 : (0 : Int) ≤ (m : Int) := by omega
                  have i2 : (m : Int) < (L : Int) := by have := hmL.out; omega
                  have hLc : L ≤ cc := by obtain ⟨_, _, e, _, h⟩ := ownsRow_sliceR2 hown; injection e with _ _ e3; omega
                  have i3 : (m : Int) ≤ (cc : Int) := by omega
                  have i4 : m ≤ cc := by omega
                  cases hnd : (z.nd == y.nd)
                  · have HE := Lib.hid (show joinS (stepsUp ps k) (stL x (j + 1)) = joinS (stepsUp ps k) (stL x j) ++ [⟨y.nd, PI, PO⟩] by rw [addS_join, E6.out]; unfold addS; rw [if_neg (fun h => by have h2 := h.2.2; unfold meetB at h2; rw [← hz.out] at h2; simp [hnd] at h2)])
                    go_wp2_with fail
                    go_quiet (fail)
                    have hh3 : ∀ W : World, HasStep (W.alloc (.cells #[Value.int .i64 y.nd, Value.int .i64 PI, Value.int .i64 PO] 91)) (W.alloc (.cells #[Value.int .i64 y.nd, Value.int .i64 PI, Value.int .i64 PO] 91)).heap.size (some ⟨W.heap.size, 0, none⟩) 1 [⟨y.nd, PI, PO⟩] := fun W => hasR_new (cell := TStep.cell) (nc := 3) (by decide) W 91 ⟨y.nd, PI, PO⟩ _ (fun j hj => by match j, hj with | 0, _ => rfl | 1, _ => rfl | 2, _ => rfl)
                    go_wp2_with (at_builtin; refine wpList_appR (by decide) oneStep rfl (.tmp 88) (.tmp 90) 88 rfl _ 91 i0 _ Tryz.underlying88 hi0 hz0 rfl hz1 (by rw [hz2]; decide) _ _ L rfl (own_keptR (own_keptR ho8 (Mk.drewN wc _)) (Mk.alloc _ _)) _ 1 1 [⟨y.nd, PI, PO⟩] rfl (fun h => by cases h) (hh3 _) (by omega) ((hM8.trans (Mk.drewN _ _)).trans (Mk.alloc _ _)).size ?_; intro v2 w3 hown2 hgr2)
                    have M9 := ((hM8.trans (Mk.drewN _ _)).trans (Mk.alloc _ _)).appR hgr2 (fun q hq => (ho8.lt q hq).1)
                    go_wp2_with fail
                    go_roundw
                    case rel => first | exact ⟨j + 1, by omega, by go_num, by rw [HE.out, List.length_append, ← hL.out]; exact hown2, M9⟩ | ((repeat apply Exists.intro); exact ⟨⟨j + 1, by omega, by go_num, by rw [HE.out, List.length_append, ← hL.out]; exact hown2, M9⟩, rfl⟩)
                    case measure => simp [intOf]; omega
                  · have HE := Lib.hid (show joinS (stepsUp ps k) (stL x (j + 1)) = (joinS (stepsUp ps k) (stL x j)).dropLast ++ [⟨y.nd, z.ing, PO⟩] by
                      rw [addS_join, E6.out]
                      unfold addS
                      rw [if_pos ⟨u1, HJ.out, by unfold meetB; rw [← hz.out, ← hL.out]; simp [hnd]; omega⟩, ← hz.out])
                    go_wp2_with fail
                    go_quiet (fail)
                    have hh3 : ∀ W : World, HasStep (W.alloc (.cells #[Value.int .i64 y.nd, Value.int .i64 z.ing, Value.int .i64 PO] 91)) (W.alloc (.cells #[Value.int .i64 y.nd, Value.int .i64 z.ing, Value.int .i64 PO] 91)).heap.size (some ⟨W.heap.size, 0, none⟩) 1 [⟨y.nd, z.ing, PO⟩] := fun W => hasR_new (cell := TStep.cell) (nc := 3) (by decide) W 91 ⟨y.nd, z.ing, PO⟩ _ (fun j hj => by match j, hj with | 0, _ => rfl | 1, _ => rfl | 2, _ => rfl)
                    have T3 := fun N : Nat => own_keptR (own_setR (own_keptR (ownsRow_pop ho8 hmL.out) (Mk.drewN wc N)) ⟨g, 1, none⟩ (.int .i64 z.ing) (fun q hq => by have e : some g2 = some q := hq; injection e with e; subst e; show g2 ≠ g; omega)) (Mk.alloc _ (Obj.cells #[Value.int .i64 y.nd, Value.int .i64 z.ing, Value.int .i64 PO] 91))
                    have T4 : ∀ N : Nat, HasStep (((wc.drewN N).setCell ⟨g, 1, none⟩ (.int .i64 z.ing)).alloc (Obj.cells #[Value.int .i64 y.nd, Value.int .i64 z.ing, Value.int .i64 PO] 91)) (((wc.drewN N).setCell ⟨g, 1, none⟩ (.int .i64 z.ing)).alloc (Obj.cells #[Value.int .i64 y.nd, Value.int .i64 z.ing, Value.int .i64 PO] 91)).heap.size (some ⟨wc.heap.size, 0, none⟩) 1 [⟨y.nd, z.ing, PO⟩] := fun N => by
                      have h := hh3 ((wc.drewN N).setCell ⟨g, 1, none⟩ (.int .i64 z.ing))
                      rw [show ((wc.drewN N).setCell ⟨g, 1, none⟩ (.int .i64 z.ing)).heap.size = wc.heap.size from World.size_set _ _ _] at h
                      exact h
                    have T5 := fun N : Nat => ((hM8.trans (Mk.drewN wc N)).put ⟨g, 1, none⟩ (.int .i64 z.ing) (Nat.le_trans hM.size hg)).trans (Mk.alloc _ (Obj.cells #[Value.int .i64 y.nd, Value.int .i64 z.ing, Value.int .i64 PO] 91))
                    go_wp2_with (at_builtin; refine wpList_appR (by decide) oneStep rfl (.tmp 88) (.tmp 90) 88 rfl _ 91 i0 _ Tryz.underlying88 hi0 hz0 rfl hz1 (by rw [hz2]; decide) _ _ m rfl (T3 _) _ 1 1 [⟨y.nd, z.ing, PO⟩] rfl (fun h => by cases h) (T4 _) (by have := hmL.out; omega) (T5 _).size ?_; intro v2 w3 hown2 hgr2)
                    have M9 := (T5 _).appR hgr2 (fun q hq => by have e : some g2 = some q := hq; injection e with e; subst e; exact hg2.1)
                    go_wp2_with fail
                    go_roundw
                    case rel => first | exact ⟨j + 1, by omega, by go_num, by rw [HE.out, List.length_append, List.length_dropLast, ← hL.out, hmL.out]; exact hown2, M9⟩ | ((repeat apply Exists.intro); exact ⟨⟨j + 1, by omega, by go_num, by rw [HE.out, List.length_append, List.length_dropLast, ← hL.out, hmL.out]; exact hown2, M9⟩, rfl⟩)
                    case measure => simp [intOf]; omega
              · have d2 : ((j : Int) == 0) = false := by simp; omega
                have d3 : (j == 0) = false := by simp; omega
                have HE := Lib.hid (show joinS (stepsUp ps k) (stL x (j + 1)) = joinS (stepsUp ps k) (stL x j) ++ [⟨y.nd, PI, PO⟩] by rw [addS_join, E6.out]; unfold addS; rw [if_neg (fun h => by omega)])
                go_wp2_with fail
                go_quiet (fail)
                have hh3 : ∀ W : World, HasStep (W.alloc (.cells #[Value.int .i64 y.nd, Value.int .i64 PI, Value.int .i64 PO] 91)) (W.alloc (.cells #[Value.int .i64 y.nd, Value.int .i64 PI, Value.int .i64 PO] 91)).heap.size (some ⟨W.heap.size, 0, none⟩) 1 [⟨y.nd, PI, PO⟩] := fun W => hasR_new (cell := TStep.cell) (nc := 3) (by decide) W 91 ⟨y.nd, PI, PO⟩ _ (fun j hj => by match j, hj with | 0, _ => rfl | 1, _ => rfl | 2, _ => rfl)
                go_wp2_with (at_builtin; refine wpList_appR (by decide) oneStep rfl (.tmp 88) (.tmp 90) 88 rfl _ 91 i0 _ Tryz.underlying88 hi0 hz0 rfl hz1 (by rw [hz2]; decide) _ _ L rfl (own_keptR (own_keptR ho8 (Mk.drewN wc _)) (Mk.alloc _ _)) _ 1 1 [⟨y.nd, PI, PO⟩] rfl (fun h => by cases h) (hh3 _) (by omega) ((hM8.trans (Mk.drewN _ _)).trans (Mk.alloc _ _)).size ?_; intro v2 w3 hown2 hgr2)
                have M9 := ((hM8.trans (Mk.drewN _ _)).trans (Mk.alloc _ _)).appR hgr2 (fun q hq => (ho8.lt q hq).1)
                go_wp2_with fail
                go_roundw
                case rel => first | exact ⟨j + 1, by omega, by go_num, by rw [HE.out, List.length_append, ← hL.out]; exact hown2, M9⟩ | ((repeat apply Exists.intro); exact ⟨⟨j + 1, by omega, by go_num, by rw [HE.out, List.length_append, ← hL.out]; exact hown2, M9⟩, rfl⟩)
                case measure => simp [intOf]; omega
        · obtain rfl : j = n3 := by omega
          go_wp2_with fail
          go_roundw
          case rel => exact ⟨k + 1, by omega, by go_num, by rw [HE0.out, ← hL.out]; exact hown, hM⟩
          case measure => simp [intOf]; omega
    · obtain rfl : k = n := by omega
      obtain ⟨L, hL⟩ : ∃ L, Hid (L = (stepsUp ps k).length) := ⟨_, rfl⟩
      rw [← hL.out] at hown hbd
      obtain ⟨A, cc, rfl, hA0⟩ := ownsRow_sliceR hown
      have hLb : L ≤ 1048576 := by unfold szPathPart at hn; omega
      rcases Nat.eq_zero_or_pos L with h0 | hpos
      · subst h0
        have HP := Lib.hid (show pathSt ps k = stepsUp ps k by unfold pathSt finS; rw [if_pos hL.out.symm])
        go_wp2_with fail
        go_ret
        exact OutRows.of (by decide) (own_lowR (by rw [HP.out]; exact hown) M0.size) hM'
      · obtain ⟨m, hmL⟩ : ∃ m, Hid (L = m + 1) := ⟨L - 1, by show L = L - 1 + 1; omega⟩
        obtain ⟨g, rfl⟩ : ∃ g, A = some ⟨g, 0, none⟩ := by
          rcases hown.2 with ⟨h', h0⟩ | ⟨g, cap, cur, h', _⟩
          · omega
          · simp only [Value.slice.injEq] at h'
            exact ⟨g, h'.1⟩
        have hg := hown.lt g rfl
        have hgs := hg.2
        obtain ⟨x, hx⟩ : ∃ x, Hid (x = (stepsUp ps k).getD 0 default) := ⟨_, rfl⟩
        have hfst : ∀ q, q < 3 → wr.cell? ⟨g, q, none⟩ = some (TStep.cell x q) := fun q hq => by
          have hh2 := hL.out
          have := flat_at (nc := 3) (cell := TStep.cell) (stepsUp ps k) 0 q hq
          rw [Nat.zero_mul, Nat.zero_add] at this
          rw [hown.cellAt q (by omega), rowC_get (by decide) _ _ (by omega), this, hx.out]
        have c0 : wr.cell? ⟨g, 0, none⟩ = some (.int .i64 x.nd) := hfst 0 (by decide)
        have c1 : wr.cell? ⟨g, 1, none⟩ = some (.int .i64 x.ing) := hfst 1 (by decide)
        have c2 : wr.cell? ⟨g, 2, none⟩ = some (.int .i64 x.eg) := hfst 2 (by decide)
        have f0 : wr.frozen? ⟨g, 0, none⟩ = false := hown.frozenAt _
        have f1 : wr.frozen? ⟨g, 1, none⟩ = false := hown.frozenAt _
        have f2 : wr.frozen? ⟨g, 2, none⟩ = false := hown.frozenAt _
        have hs1 := own_put3 hown 0 (by rw [← hL.out]; exact hpos) ⟨x.nd, 0, x.eg⟩
        simp only [Nat.zero_mul, Nat.zero_add] at hs1
        rw [show (stepsUp ps k).set 0 ⟨x.nd, 0, x.eg⟩ = fin1 (stepsUp ps k) by rw [hx.out]; rfl] at hs1
        obtain ⟨z, hz⟩ : ∃ z, Hid (z = lastS (fin1 (stepsUp ps k))) := ⟨_, rfl⟩
        have hlst : ∀ q, q < 3 → (((wr.setCell ⟨g, 0, none⟩ (.int .i64 x.nd)).setCell ⟨g, 1, none⟩ (.int .i64 0)).setCell ⟨g, 2, none⟩ (.int .i64 x.eg)).cell? ⟨g, m * 3 + q, none⟩ = some (TStep.cell z q) := fun q hq => by
          have hh := hmL.out
          have hh2 := hL.out
          rw [hs1.cellAt (m * 3 + q) (by omega), rowC_get (by decide) _ _ (by rw [fin1_len]; omega), flat_at _ m q hq, hz.out]
          unfold lastS
          rw [fin1_len, ← hh2, hh]
          rfl
        have l0 : (((wr.setCell ⟨g, 0, none⟩ (.int .i64 x.nd)).setCell ⟨g, 1, none⟩ (.int .i64 0)).setCell ⟨g, 2, none⟩ (.int .i64 x.eg)).cell? ⟨g, m * 3, none⟩ = some (.int .i64 z.nd) := hlst 0 (by decide)
        have l1 : (((wr.setCell ⟨g, 0, none⟩ (.int .i64 x.nd)).setCell ⟨g, 1, none⟩ (.int .i64 0)).setCell ⟨g, 2, none⟩ (.int .i64 x.eg)).cell? ⟨g, m * 3 + 1, none⟩ = some (.int .i64 z.ing) := hlst 1 (by decide)
        have l2 : (((wr.setCell ⟨g, 0, none⟩ (.int .i64 x.nd)).setCell ⟨g, 1, none⟩ (.int .i64 0)).setCell ⟨g, 2, none⟩ (.int .i64 x.eg)).cell? ⟨g, m * 3 + 2, none⟩ = some (.int .i64 z.eg) := hlst 2 (by decide)
        have p0 : wr.frozen? ⟨g, m * 3, none⟩ = false := hown.frozenAt _
        have p1 : wr.frozen? ⟨g, m * 3 + 1, none⟩ = false := hown.frozenAt _
        have p2 : wr.frozen? ⟨g, m * 3 + 2, none⟩ = false := hown.frozenAt _
        clear hfst hlst
        have hw : IntKind.i64.wrap ((L : Int) - 1) = (m : Int) := by have := hmL.out; rw [show (L : Int) - 1 = (m : Int) by omega]; rw [IntKind.wrap_i64]; omega
        have i1 : (0 : Int) ≤ (m : Int) := by omega
        have i2 : (m : Int) < (L : Int) := by have := hmL.out; omega
        have i3 : (0 : Int) < (L : Int) := by omega
        have hs2 := own_put3 hs1 m (by rw [fin1_len, ← hL.out, hmL.out]; omega) ⟨z.nd, z.ing, 0⟩
        have HP := Lib.hid (show pathSt ps k = (fin1 (stepsUp ps k)).set m ⟨z.nd, z.ing, 0⟩ by
          have hh := hmL.out
          have hh2 := hL.out
          unfold pathSt finS
          rw [if_neg (by omega)]
          unfold fin2
          rw [fin1_len, ← hh2, hh, hz.out]
          rfl)
        have M1 := (((((hM.put ⟨g, 0, none⟩ (.int .i64 x.nd) hg.1).put ⟨g, 1, none⟩ (.int .i64 0) hg.1).put ⟨g, 2, none⟩ (.int .i64 x.eg) hg.1).put ⟨g, m * 3, none⟩ (.int .i64 z.nd) hg.1).put ⟨g, m * 3 + 1, none⟩ (.int .i64 z.ing) hg.1).put ⟨g, m * 3 + 2, none⟩ (.int .i64 0) hg.1
        rw [← HP.out] at hs2
        go_wp2_with fail
        go_ret
        exact OutRows.of (by decide) (own_lowR (own_keptR (own_keptR hs2 (Mk.alloc _ _)) (Mk.alloc _ _)) M0.size) (M0.trans ((M1.trans (Mk.alloc _ _)).trans (Mk.alloc _ _)))

end Go.Proofs.YtifhhfndoifbhaaGreat
namespace Go.Proofs.YtifhhfndoifbhaaGreat
open Go.ChangeShapes Go.WideShapes Go.ChangeAt Go.RowKit
set_option linter.unusedVariables false
theorem infoRstp : (Tryz.prog.info? 100).map (fun i => (i.zero, i.size, i.bytes)) = some (some (.agg #[.int .i64 0, .int .i64 0, .int .i64 0]), 3, 24) := by kernel_rfl
theorem eqArr (x y : Int) (w : World) : (Op.equalIn 10000 100 (.agg #[.int .i64 x, .int .i64 0, .int .i64 0]) (.agg #[.int .i64 y, .int .i64 0, .int .i64 0])).run Tryz.prog w = .ok (x == y) w := by
  obtain ⟨i0, hi0, hz0, hz1, hz2⟩ := info_parts infoI64
  have hp : Tryz.prog.plainKey 3 = true := by kernel_rfl
  have hc : Tryz.prog.cellsOf 3 = 1 := by kernel_rfl
  rw [run_equalIn_array w 9999 _ _ Tryz.underlying100 hi0, show List.range 3 = [0, 1, 2] from rfl, hc]
  have P0 : ∀ z : Int, (part 3 #[Value.int .i64 z, .int .i64 0, .int .i64 0] 0).run Tryz.prog w = .ok (.int .i64 z) w := fun z => run_part_plain w hp rfl
  have P1 : ∀ z : Int, (part 3 #[Value.int .i64 z, .int .i64 0, .int .i64 0] 1).run Tryz.prog w = .ok (.int .i64 0) w := fun z => run_part_plain w hp rfl
  have P2 : ∀ z : Int, (part 3 #[Value.int .i64 z, .int .i64 0, .int .i64 0] 2).run Tryz.prog w = .ok (.int .i64 0) w := fun z => run_part_plain w hp rfl
  have Q : ∀ a b : Int, (Op.equalIn 9999 3 (.int .i64 a) (.int .i64 b)).run Tryz.prog w = .ok (a == b) w := fun a b => run_equalIn_int w 9998 3 .i64 .i64 a b Tryz.underlying3
  cases h : (x == y) <;> simp [Op.eqItems, P0, P1, P2, Q, h]
set_option maxRecDepth 100000 in
set_option maxHeartbeats 4000000 in
theorem implWoI (a b c : Int) (w : World) : Calls Tryz.prog 111 #[.agg #[.int .i64 a, .int .i64 b, .int .i64 c]] w fun e w' => e = .returned (.agg #[.int .i64 a, .int .i64 0, .int .i64 0]) ∧ Mk0 w w' := by
  go_enter Tryz.func111, Tryz.ntmps111
  go_wp2_with fail
  refine bodyPost_ret (v := .agg #[.int .i64 a, .int .i64 0, .int .i64 0]) (by simp [results, Tryz.results111, go_sem]) rfl ⟨rfl, Mk.of_below ?_⟩
  go_grown

set_option maxRecDepth 100000 in
set_option maxHeartbeats 4000000 in
theorem implSoP (x0 x1 x2 : Int) (a : Option Addr) (n c B : Nat) (zs : List THop) (w : World) (h : HasHop w B a n zs) (hB : B ≤ w.heap.size) (hn : n ≤ 1048576) :
    Calls Tryz.prog 94 #[.agg #[.int .i64 x0, .int .i64 x1, .int .i64 x2, .slice a n c]] w (OutRows 3 TStep.cell w (stL (⟨x0, x1, x2, zs⟩ : TPathPart) n)) := by
  obtain ⟨i0, hi0, hz0, hz1, hz2⟩ := info_parts infoRstp
  have M0 := Mk.alloc w (Obj.cells #[Value.int .i64 x0, Value.int .i64 x1, Value.int .i64 x2, Value.slice a n c] 50)
  have HL := Lib.hid h.1
  go_enter Tryz.func94, Tryz.ntmps94
  go_wp2_with fail
  have hl0 := own_emptyR (w.alloc (Obj.cells #[Value.int .i64 x0, Value.int .i64 x1, Value.int .i64 x2, Value.slice a n c] 50)) 100 3
  have ML := Mk.alloc (w.alloc (Obj.cells #[Value.int .i64 x0, Value.int .i64 x1, Value.int .i64 x2, Value.slice a n c] 50)) (.cells #[] 100)
  go_loopw [3, 12] (fun v i wr => ∃ k : Nat, k ≤ n ∧ i = .int .i64 k ∧ wr.ownsRow (w.alloc (Obj.cells #[Value.int .i64 x0, Value.int .i64 x1, Value.int .i64 x2, Value.slice a n c] 50)).heap.size 100 3 v k (rowC 3 TStep.cell (stL (⟨x0, x1, x2, zs⟩ : TPathPart) k)) ∧ Mk0 (w.alloc (Obj.cells #[Value.int .i64 x0, Value.int .i64 x1, Value.int .i64 x2, Value.slice a n c] 50)) wr) (fun _ i _ => n - (intOf i).toNat)
  case atStart => exact ⟨0, Nat.zero_le _, rfl, by simpa [stL, rowC] using hl0, ML⟩
  case round =>
    clear hl0 ML
    obtain ⟨k, hk, rfl, hown, hP⟩ := hrel
    have hM := M0.trans hP
    have k0 := hP.cellAt (b := w.heap.size) (o := 0) (v := .int .i64 x0) (by simp [go_sem])
    have k1 := hP.cellAt (b := w.heap.size) (o := 1) (v := .int .i64 x1) (by simp [go_sem])
    have k2 := hP.cellAt (b := w.heap.size) (o := 2) (v := .int .i64 x2) (by simp [go_sem])
    have k3 := hP.cellAt (b := w.heap.size) (o := 3) (v := .slice a n c) (by simp [go_sem])
    have hbp := World.block_lt_of_cell? _ _ k0
    simp only at hbp
    by_cases hlt : k < n
    · obtain ⟨b, off, y, rfl, hb, hx, c0, c1, c2, c3, c4⟩ := HasHop.at _ _ _ _ _ _ (h.mk hM hB (.inr (Nat.le_refl _))) hlt
      have hbr := World.block_lt_of_cell? _ _ c0
      simp only at hbr
      have MH := Mk.alloc wr (Obj.cells #[Value.int .i64 y.nd, Value.int .i64 y.ing, Value.int .i64 y.eg, Value.int .i64 y.exp, Value.int .i64 y.mac] 53)
      have HE := Lib.hid (show stL (⟨x0, x1, x2, zs⟩ : TPathPart) (k + 1) = stL (⟨x0, x1, x2, zs⟩ : TPathPart) k ++ [⟨y.nd, pInV x0 zs n k, pOutV x0 zs n k⟩] by rw [stL, stOf]; simp only; rw [← hx.out, HL.out])
      have d0 : (wr.alloc (Obj.cells #[Value.int .i64 y.nd, Value.int .i64 y.ing, Value.int .i64 y.eg, Value.int .i64 y.exp, Value.int .i64 y.mac] 53)).cell? ⟨wr.heap.size, 0, none⟩ = some (.int .i64 y.nd) := by simp [go_sem]
      replace k0 := MH.cellAt k0
      replace k1 := MH.cellAt k1
      replace k2 := MH.cellAt k2
      replace k3 := MH.cellAt k3
      have M1 := hM.trans MH
      have P1 := hP.trans MH
      go_wp2_with fail
      refine (implDoors x0 x1 x2 (some ⟨b, off, none⟩) n c B zs k _ (h.mk M1 hB (.inr (Nat.le_refl _))) (Nat.le_trans hB M1.size) hn).mono ?_
      rintro e w2 ⟨rfl, m2⟩
      have M2 := M1.trans m2
      replace d0 := m2.cellAt d0
      replace k0 := m2.cellAt k0
      replace k1 := m2.cellAt k1
      replace k2 := m2.cellAt k2
      replace k3 := m2.cellAt k3
      have ho2 := own_keptR (own_keptR hown MH) m2
      have MX := Mk.alloc w2 (Obj.cells #[Value.int .i64 y.nd, Value.int .i64 (pInV x0 zs n k), Value.int .i64 (pOutV x0 zs n k)] 100)
      have ho3 := own_keptR ho2 MX
      have hh3 := hasR_new (cell := TStep.cell) (nc := 3) (by decide) w2 100 ⟨y.nd, pInV x0 zs n k, pOutV x0 zs n k⟩ #[Value.int .i64 y.nd, Value.int .i64 (pInV x0 zs n k), Value.int .i64 (pOutV x0 zs n k)] (fun j hj => by match j, hj with | 0, _ => rfl | 1, _ => rfl | 2, _ => rfl)
      have P2 := (P1.trans m2).trans MX
      have hlo := P2.size
      have hbp2 := World.block_lt_of_cell? _ _ k0
      simp only at hbp2
      go_wp2_with (at_builtin; refine wpList_appR (by decide) oneStep rfl (.tmp 23) (.tmp 29) 97 rfl _ 100 i0 _ Tryz.underlying97 hi0 hz0 rfl hz1 (by rw [hz2]; decide) _ (stL (⟨x0, x1, x2, zs⟩ : TPathPart) k) k rfl ho3 _ 1 1 [⟨y.nd, pInV x0 zs n k, pOutV x0 zs n k⟩] rfl (fun h => by cases h) hh3 (by omega) hlo ?_; intro v2 w3 hown2 hgr2)
      have M3 := P2.appR hgr2 (fun g hg => (ho3.lt g hg).1)
      go_wp2_with fail
      go_roundw
      case rel => exact ⟨k + 1, by omega, by go_num, by rw [HE.out]; exact hown2, M3⟩
      case measure => simp [intOf]; omega
    · obtain rfl : k = n := by omega
      go_wp2_with fail
      go_ret
      exact OutRows.of (by decide) (own_lowR hown M0.size) hM

set_option maxRecDepth 100000 in
set_option maxHeartbeats 4000000 in
theorem implMeet (a a' : Option Addr) (n n' c c' B B' : Nat) (zs zs' : List TStep) (w : World) (h : HasStep w B a n zs) (h' : HasStep w B' a' n' zs') (hB : B ≤ w.heap.size) (hB' : B' ≤ w.heap.size) (hn : n ≤ 2097152) (hn' : n' ≤ 2097152) :
    Calls Tryz.prog 93 #[.slice a n c, .slice a' n' c'] w fun e w' => e = .returned (.bool (meetB zs zs')) ∧ Mk0 w w' := by
  have hl := h.1
  have hl' := h'.1
  by_cases g1 : n = 0
  · subst g1
    have HR := Lib.hid (show meetB zs zs' = false by unfold meetB; rw [hl]; simp)
    go_enter Tryz.func93, Tryz.ntmps93
    go_wp2_with fail
    go_quiet (fail)
    go_wp2_with fail
    go_ret
    exact ⟨retB HR.out.symm, Mk.drewN _ _⟩
  · have q1 : (0 : Int) < (n : Int) := by omega
    have d1 : decide (0 < n) = true := by simp; omega
    have e1 : 0 < n := by omega
    by_cases g2 : n' = 0
    · subst g2
      have HR := Lib.hid (show meetB zs zs' = false by unfold meetB; rw [hl']; simp)
      go_enter Tryz.func93, Tryz.ntmps93
      go_wp2_with fail
      go_quiet (fail)
      go_wp2_with fail
      go_ret
      exact ⟨retB HR.out.symm, Mk.drewN _ _⟩
    · have q2 : (0 : Int) < (n' : Int) := by omega
      have d2 : decide (0 < n') = true := by simp; omega
      have e2 : 0 < n' := by omega
      obtain ⟨m, hm⟩ : ∃ m, Hid (n = m + 1) := ⟨n - 1, by show n = n - 1 + 1; omega⟩
      obtain ⟨b, off, x, rfl, hb, hx, c0, c1, c2⟩ := HasStep.at _ _ _ _ _ _ h (show m < n by have := hm.out; omega)
      have hw : IntKind.i64.wrap ((n : Int) - 1) = (m : Int) := by have := hm.out; rw [show (n : Int) - 1 = (m : Int) by omega]; rw [IntKind.wrap_i64]; omega
      obtain ⟨b', off', y, rfl, hb', hy, d0, d1', d2'⟩ := HasStep.at _ _ _ _ _ _ h' (show 0 < n' by omega)
      simp only [Nat.zero_mul, Nat.add_zero] at d0 d1' d2'
      have hlx : lastS zs = x := by unfold lastS; rw [hl, hm.out, Nat.add_sub_cancel, hx.out]
      cases e0 : (x.nd == y.nd)
      · have HR := Lib.hid (show meetB zs zs' = false by unfold meetB; rw [hl, hl', hlx, ← hy.out, e0]; simp; try omega)
        have i0 : (0 : Int) ≤ (m : Int) := by omega
        have i1 : (m : Int) < (n : Int) := by have := hm.out; omega
        have heq : ∀ w', (Op.equalIn 10000 100 (.agg #[.int .i64 x.nd, .int .i64 0, .int .i64 0]) (.agg #[.int .i64 y.nd, .int .i64 0, .int .i64 0])).run Tryz.prog w' = .ok false w' := fun w' => by rw [eqArr, e0]
        go_enter Tryz.func93, Tryz.ntmps93
        go_wp2_with fail
        go_region_held3 (fun w' => Mk0 w w' ∧ w'.cell? ⟨b, off + m * 3, none⟩ = some (.int .i64 x.nd) ∧ w'.cell? ⟨b, off + m * 3 + 1, none⟩ = some (.int .i64 x.ing) ∧ w'.cell? ⟨b, off + m * 3 + 2, none⟩ = some (.int .i64 x.eg) ∧ w'.cell? ⟨b', off', none⟩ = some (.int .i64 y.nd) ∧ w'.cell? ⟨b', off' + 1, none⟩ = some (.int .i64 y.ing) ∧ w'.cell? ⟨b', off' + 2, none⟩ = some (.int .i64 y.eg)) (first | exact ⟨Mk.drew1 _, c0, c1, c2, d0, d1', d2'⟩ | (obtain ⟨s0, s1, s2, s3, s4, s5, s6⟩ := ‹Mk0 w _ ∧ _›; exact ⟨s0.trans mm, mm.cellAt s1, mm.cellAt s2, mm.cellAt s3, mm.cellAt s4, mm.cellAt s5, mm.cellAt s6⟩)) (first | (go_at_call 111; with_reducible refine (implWoI x.nd x.ing x.eg _).mono ?_; rintro e wx ⟨rfl, mx⟩; have mm := mx) | (go_at_call 111; with_reducible refine (implWoI y.nd y.ing y.eg _).mono ?_; rintro e wy ⟨rfl, my⟩; have mm := my))
        go_wp2_with fail
        go_ret
        exact ⟨retB HR.out.symm, ‹Mk0 w _ ∧ _›.1⟩
      · have HR := Lib.hid (show meetB zs zs' = true by unfold meetB; rw [hl, hl', hlx, ← hy.out, e0]; simp; try omega)
        have i0 : (0 : Int) ≤ (m : Int) := by omega
        have i1 : (m : Int) < (n : Int) := by have := hm.out; omega
        have heq : ∀ w', (Op.equalIn 10000 100 (.agg #[.int .i64 x.nd, .int .i64 0, .int .i64 0]) (.agg #[.int .i64 y.nd, .int .i64 0, .int .i64 0])).run Tryz.prog w' = .ok true w' := fun w' => by rw [eqArr, e0]
        go_enter Tryz.func93, Tryz.ntmps93
        go_wp2_with fail
        go_region_held3 (fun w' => Mk0 w w' ∧ w'.cell? ⟨b, off + m * 3, none⟩ = some (.int .i64 x.nd) ∧ w'.cell? ⟨b, off + m * 3 + 1, none⟩ = some (.int .i64 x.ing) ∧ w'.cell? ⟨b, off + m * 3 + 2, none⟩ = some (.int .i64 x.eg) ∧ w'.cell? ⟨b', off', none⟩ = some (.int .i64 y.nd) ∧ w'.cell? ⟨b', off' + 1, none⟩ = some (.int .i64 y.ing) ∧ w'.cell? ⟨b', off' + 2, none⟩ = some (.int .i64 y.eg)) (first | exact ⟨Mk.drew1 _, c0, c1, c2, d0, d1', d2'⟩ | (obtain ⟨s0, s1, s2, s3, s4, s5, s6⟩ := ‹Mk0 w _ ∧ _›; exact ⟨s0.trans mm, mm.cellAt s1, mm.cellAt s2, mm.cellAt s3, mm.cellAt s4, mm.cellAt s5, mm.cellAt s6⟩)) (first | (go_at_call 111; with_reducible refine (implWoI x.nd x.ing x.eg _).mono ?_; rintro e wx ⟨rfl, mx⟩; have mm := mx) | (go_at_call 111; with_reducible refine (implWoI y.nd y.ing y.eg _).mono ?_; rintro e wy ⟨rfl, my⟩; have mm := my))
        go_wp2_with fail
        go_ret
        exact ⟨retB HR.out.symm, ‹Mk0 w _ ∧ _›.1⟩

set_option maxRecDepth 100000 in
set_option maxHeartbeats 4000000 in
theorem implStepsOf (a : Option Addr) (n c B : Nat) (ps : List TPathPart) (w : World) (h : HasPathPart w B a n ps) (hB : B ≤ w.heap.size) (hn : szPathPart ps n ≤ 1048576) :
    Calls Tryz.prog 64 #[.agg #[.slice a n c]] w (OutRows 3 TStep.cell w (pathSt ps n)) := by
  have hn0 : n ≤ 1048576 := Nat.le_trans (szPathPart_n ps n) hn
  have M0 := Mk.alloc w (Obj.cells #[Value.slice a n c] 39)
  obtain ⟨i0, hi0, hz0, hz1, hz2⟩ := info_parts infoRstp
  go_enter Tryz.func64, Tryz.ntmps64
  go_wp2_with fail
  have hl0 := own_emptyR (w.alloc (Obj.cells #[Value.slice a n c] 39)) 100 3
  have ML := Mk.alloc (w.alloc (Obj.cells #[Value.slice a n c] 39)) (.cells #[] 100)
  go_loopw [3, 11] (fun v i wr => ∃ k : Nat, k ≤ n ∧ i = .int .i64 k ∧ wr.ownsRow (w.alloc (Obj.cells #[Value.slice a n c] 39)).heap.size 100 3 v (stepsUp ps k).length (rowC 3 TStep.cell (stepsUp ps k)) ∧ Mk0 (w.alloc (Obj.cells #[Value.slice a n c] 39)) wr) (fun _ i _ => n - (intOf i).toNat)
  case atStart => exact ⟨0, Nat.zero_le _, rfl, by simpa [stepsUp, rowC] using hl0, ML⟩
  case round =>
    clear hl0 ML
    obtain ⟨k, hk, rfl, hown, hM⟩ := hrel
    have hM' := M0.trans hM
    have hbd := stepsUp_le ps k
    have hbd2 := sumTo_le sePathPart ps hk
    obtain ⟨L, hL⟩ : ∃ L, Hid (L = (stepsUp ps k).length) := ⟨_, rfl⟩
    rw [← hL.out] at hown hbd
    obtain ⟨A, cc, rfl, hA0⟩ := ownsRow_sliceR hown
    have hLb : L ≤ 1048576 := by unfold szPathPart at hn; omega
    by_cases hlt : k < n
    · obtain ⟨b, off, x, rfl, hb, hx, a3, n3, c3, d0, d1, d2, d3, r3, m3, t3, z3⟩ := HasPathPart.at _ _ _ _ _ _ (h.mk hM' hB (.inr (Nat.le_refl _))) hlt
      have hbr := World.block_lt_of_cell? _ _ d0
      simp only at hbr
      have hs3 : sumTo sePathPart ps k + n3 ≤ 1048576 := by
        have h1 := sumTo_le sePathPart ps (show k + 1 ≤ n from hlt)
        rw [sumTo, ← hx.out] at h1
        unfold sePathPart at h1
        rw [r3.1] at h1
        unfold szPathPart sePathPart at hn
        unfold sePathPart
        omega
      have MX := Mk.alloc wr (Obj.cells #[Value.int .i64 x.kind, Value.int .i64 x.ts, Value.int .i64 x.beta, Value.slice a3 n3 c3] 50)
      have hB1 := Nat.le_trans hB (hM'.trans MX).size
      have HE0 := Lib.hid (show stepsUp ps (k + 1) = joinS (stepsUp ps k) (stL x n3) by rw [stepsUp, ← hx.out, r3.1])
      have q0 : (wr.alloc (Obj.cells #[Value.int .i64 x.kind, Value.int .i64 x.ts, Value.int .i64 x.beta, Value.slice a3 n3 c3] 50)).cell? ⟨wr.heap.size, 0, none⟩ = some (.int .i64 x.kind) := by simp [go_sem]
      go_wp2_with fail
      refine (implSoP x.kind x.ts x.beta a3 n3 c3 B x.hops _ (r3.mk MX (Nat.le_trans hB hM'.size) (.inr (Nat.le_refl _))) hB1 (by omega)).mono ?_
      rintro e w2 ⟨A2, N2, c2, rfl, hc2, o2, m2⟩
      obtain rfl : N2 = n3 := o2.1.symm.trans (stL_len _ _)
      have ho2 := own_keptR (own_keptR hown MX) m2
      have M2 := (hM.trans MX).trans m2
      have hsz2 := m2.size
      rw [World.size_alloc] at hsz2
      cases hm : meetB (stepsUp ps k) (stL x N2)
      · have HE := Lib.hid (show stepsUp ps (k + 1) = stepsUp ps k ++ stL x N2 by rw [HE0.out]; unfold joinS; rw [if_neg (by rw [hm]; decide)])
        have HM := Lib.hid hm
        go_wp2_with fail
        refine (implMeet _ _ L N2 _ _ _ _ (stepsUp ps k) (stL x N2) _ (ownsRow_ownR (by decide) ho2).has o2.has (Nat.le_refl _) (Nat.le_refl _) (by omega) (by omega)).mono ?_
        rintro e w4 ⟨he, m4⟩
        rw [HM.out] at he
        subst he
        have ho4 := own_keptR ho2 m4
        have hh4 := (o2.has.mk m4 (Nat.le_refl _) (.inr (Nat.le_refl _))).mono m4.size
        have hlo := (M2.trans m4).size
        go_wp2_with (at_builtin; refine wpList_appR (by decide) oneStep rfl (.tmp 32) (.tmp 33) 97 rfl _ 100 i0 _ Tryz.underlying97 hi0 hz0 rfl hz1 (by rw [hz2]; decide) _ (stepsUp ps k) L rfl ho4 A2 N2 c2 (stL x N2) rfl hc2.1 hh4 (by omega) hlo ?_; intro v2 w5 hown2 hgr2)
        have M5 := (M2.trans m4).appR hgr2 (fun g hg => (ho4.lt g hg).1)
        go_wp2_with fail
        go_roundw
        case rel => exact ⟨k + 1, by omega, by go_num, by rw [HE.out, List.length_append, stL_len, ← hL.out]; exact hown2, M5⟩
        case measure => simp [intOf]; omega
      · have HM := Lib.hid hm
        have hpos := meet_pos hm
        rw [stL_len, ← hL.out] at hpos
        obtain ⟨m, hmL⟩ : ∃ m, Hid (L = m + 1) := ⟨L - 1, by show L = L - 1 + 1; omega⟩
        obtain ⟨q, hq⟩ : ∃ q, Hid (N2 = q + 1) := ⟨N2 - 1, by show N2 = N2 - 1 + 1; omega⟩
        obtain ⟨g, rfl⟩ : ∃ g, A = some ⟨g, 0, none⟩ := by
          rcases ho2.2 with ⟨h', h0⟩ | ⟨g, cap, cur, h', _⟩
          · omega
          · simp only [Value.slice.injEq] at h'
            exact ⟨g, h'.1⟩
        have hg := hown.lt g rfl
        obtain ⟨b2, off2, y, rfl, hb2, hy, e0, e1, e2⟩ := HasStep.at _ _ _ _ _ _ o2.has (show 0 < N2 by omega)
        simp only [Nat.zero_mul, Nat.add_zero] at e0 e1 e2
        have hcl : w2.cell? ⟨g, m * 3 + 2, none⟩ = some (.int .i64 (lastS (stepsUp ps k)).eg) := by
          have hh := hmL.out
          have hh2 := hL.out
          rw [ho2.cellAt (m * 3 + 2) (by omega), rowC_get (by decide) _ _ (by omega), flat_at _ m 2 (by decide)]
          unfold lastS
          rw [← hh2, hh]
          rfl
        have hfl : w2.frozen? ⟨g, m * 3 + 2, none⟩ = false := ho2.frozenAt _
        have hw : IntKind.i64.wrap ((L : Int) - 1) = (m : Int) := by have := hmL.out; rw [show (L : Int) - 1 = (m : Int) by omega]; rw [IntKind.wrap_i64]; omega
        have i1 : (0 : Int) ≤ (m : Int) := by omega
        have i2 : (m : Int) < (L : Int) := by have := hmL.out; omega
        have i3 : (0 : Int) < (N2 : Int) := by omega
        have HE := Lib.hid (show stepsUp ps (k + 1) = (stepsUp ps k).set m ⟨(lastS (stepsUp ps k)).nd, (lastS (stepsUp ps k)).ing, y.eg⟩ ++ (stL x N2).tail by
          have hh := hmL.out
          have hh2 := hL.out
          rw [HE0.out]
          unfold joinS
          rw [if_pos hm, ← hy.out, show m = (stepsUp ps k).length - 1 by omega, glue_set _ _ (by omega), List.append_assoc]
          rfl)
        go_wp2_with fail
        refine (implMeet _ _ L N2 _ _ _ _ (stepsUp ps k) (stL x N2) _ (ownsRow_ownR (by decide) ho2).has o2.has (Nat.le_refl _) (Nat.le_refl _) (by omega) (by omega)).mono ?_
        rintro e w4 ⟨he, m4⟩
        rw [HM.out] at he
        subst he
        have ho4 := own_keptR ho2 m4
        have M4 := M2.trans m4
        have f0 := m4.cellAt e2
        have f1 := m4.cellAt hcl
        have f2 := m4.frozenAt hcl hfl
        clear e0 e1 e2 hcl hfl
        go_wp2_with fail
        go_still_tail 10, (by kernel_rfl)
        change wpList _ _ _ _ _ w4.drew
        have M5 := M4.trans (Mk.drew1 w4)
        replace f0 := (Mk.drew1 w4).cellAt f0
        replace f2 := (Mk.drew1 w4).frozenAt f1 f2
        replace f1 := (Mk.drew1 w4).cellAt f1
        have ho5 := own_keptR ho4 (Mk.drew1 w4)
        have o5 := (o2.mk m4 (Nat.le_refl _) (.inr (.inr (Nat.le_refl _)))).mk (Mk.drew1 w4) m4.size (.inr (.inr (Nat.le_refl _)))
        have z4 := m4.size
        have z5 : w4.drew.heap.size = w4.heap.size := rfl
        generalize w4.drew = w5 at *
        obtain ⟨hs1, hs2⟩ := ho5.stored (m * 3 + 2) (.int .i64 y.eg)
        rw [rowC_set (stepsUp ps k) m 2 ⟨(lastS (stepsUp ps k)).nd, (lastS (stepsUp ps k)).ing, y.eg⟩ _ (by have := hmL.out; have := hL.out; omega) (by decide) (fun q hq => by
          have hh := hmL.out
          have hh2 := hL.out
          have e : (stepsUp ps k).getD m default = lastS (stepsUp ps k) := by unfold lastS; rw [← hh2, hh]; rfl
          rw [e]
          match q, hq with
          | 0, _ => rfl
          | 1, _ => rfl
          | 2, _ => rfl)] at hs1
        have M6 := M5.appR hs2 (fun q hq => by cases hq; exact hg.1)
        have o6 := o5.set ⟨g, m * 3 + 2, none⟩ (.int .i64 y.eg) (.inl (by rw [World.size_alloc]; simp only; omega))
        have z6 : (w5.setCell ⟨g, m * 3 + 2, none⟩ (.int .i64 y.eg)).heap.size = w5.heap.size := World.size_set _ _ _
        have hh6 := o6.has.mono (B' := (w5.setCell ⟨g, m * 3 + 2, none⟩ (.int .i64 y.eg)).heap.size) (by rw [z6, z5]; exact m4.size)
        have hlo := M6.size
        have hcn := hc2.2
        have HT := Lib.hid (show (stL x N2).tail.length = N2 - 1 by rw [List.length_tail, stL_len])
        have HS := Lib.hid (show ((stepsUp ps k).set m ⟨(lastS (stepsUp ps k)).nd, (lastS (stepsUp ps k)).ing, y.eg⟩).length = L by rw [List.length_set, ← hL.out])
        by_cases hc1 : c2 = 1
        · have ht := tail_row (n := N2 - 1) (A := some ⟨b2, off2, none⟩) (show HasStep _ _ (some ⟨b2, off2, none⟩) (N2 - 1 + 1) (stL x N2) by rw [show N2 - 1 + 1 = N2 by omega]; exact hh6) (fun h => by omega)
          go_wp2_with (at_builtin; refine wpList_appR (by decide) oneStep rfl (.tmp 32) (.tmp 33) 97 rfl _ 100 i0 _ Tryz.underlying97 hi0 hz0 rfl hz1 (by rw [hz2]; decide) _ _ L rfl hs1 _ (N2 - 1) _ (stL x N2).tail rfl (fun h => by cases h) ht (by omega) hlo ?_; intro v2 w7 hown2 hgr2)
          have M7 := M6.appR hgr2 (fun g hg => (hs1.lt g hg).1)
          go_wp2_with fail
          go_roundw
          case rel => exact ⟨k + 1, by omega, by go_num, by rw [HE.out, List.length_append, HS.out, HT.out]; exact hown2, M7⟩
          case measure => simp [intOf]; omega
        · have ht := tail_row (n := N2 - 1) (A := some ⟨b2, off2 + 3, none⟩) (show HasStep _ _ (some ⟨b2, off2, none⟩) (N2 - 1 + 1) (stL x N2) by rw [show N2 - 1 + 1 = N2 by omega]; exact hh6) (fun h => rfl)
          go_wp2_with (at_builtin; refine wpList_appR (by decide) oneStep rfl (.tmp 32) (.tmp 33) 97 rfl _ 100 i0 _ Tryz.underlying97 hi0 hz0 rfl hz1 (by rw [hz2]; decide) _ _ L rfl hs1 _ (N2 - 1) _ (stL x N2).tail rfl (fun h => by cases h) ht (by omega) hlo ?_; intro v2 w7 hown2 hgr2)
          have M7 := M6.appR hgr2 (fun g hg => (hs1.lt g hg).1)
          go_wp2_with fail
          go_roundw
          case rel => exact ⟨k + 1, by omega, by go_num, by rw [HE.out, List.length_append, HS.out, HT.out]; exact hown2, M7⟩
          case measure => simp [intOf]; omega
    · obtain rfl : k = n := by omega
      rcases Nat.eq_zero_or_pos L with h0 | hpos
      · subst h0
        have HP := Lib.hid (show pathSt ps k = stepsUp ps k by unfold pathSt finS; rw [if_pos hL.out.symm])
        go_wp2_with fail
        go_ret
        exact OutRows.of (by decide) (own_lowR (by rw [HP.out]; exact hown) M0.size) hM'
      · obtain ⟨m, hmL⟩ : ∃ m, Hid (L = m + 1) := ⟨L - 1, by show L = L - 1 + 1; omega⟩
        obtain ⟨g, rfl⟩ : ∃ g, A = some ⟨g, 0, none⟩ := by
          rcases hown.2 with ⟨h', h0⟩ | ⟨g, cap, cur, h', _⟩
          · omega
          · simp only [Value.slice.injEq] at h'
            exact ⟨g, h'.1⟩
        have hg := hown.lt g rfl
        have c1 : wr.cell? ⟨g, 1, none⟩ = some (.int .i64 ((stepsUp ps k).getD 0 default).ing) := by
          have hh2 := hL.out
          rw [hown.cellAt 1 (by omega), rowC_get (by decide) _ _ (by omega)]
          rfl
        have c2 : wr.cell? ⟨g, m * 3 + 2, none⟩ = some (.int .i64 ((stepsUp ps k).getD m default).eg) := by
          have hh := hmL.out
          have hh2 := hL.out
          rw [hown.cellAt (m * 3 + 2) (by omega), rowC_get (by decide) _ _ (by omega), flat_at _ m 2 (by decide)]
          rfl
        have f1 : wr.frozen? ⟨g, 1, none⟩ = false := hown.frozenAt _
        have c3 := cell_set c2 ⟨g, 1, none⟩ (.int .i64 0) (.inr (by simp only; omega))
        have f3 : (wr.setCell ⟨g, 1, none⟩ (.int .i64 0)).frozen? ⟨g, m * 3 + 2, none⟩ = false := frozen_set (hown.frozenAt _) _ _
        have hw : IntKind.i64.wrap ((L : Int) - 1) = (m : Int) := by have := hmL.out; rw [show (L : Int) - 1 = (m : Int) by omega]; rw [IntKind.wrap_i64]; omega
        have i1 : (0 : Int) ≤ (m : Int) := by omega
        have i2 : (m : Int) < (L : Int) := by have := hmL.out; omega
        have i3 : (0 : Int) < (L : Int) := by omega
        obtain ⟨hs1, hs2⟩ := hown.stored (0 * 3 + 1) (.int .i64 0)
        rw [rowC_set (stepsUp ps k) 0 1 ⟨((stepsUp ps k).getD 0 default).nd, 0, ((stepsUp ps k).getD 0 default).eg⟩ _ (by have := hL.out; omega) (by decide) (fun q hq => by
          match q, hq with
          | 0, _ => rfl
          | 1, _ => rfl
          | 2, _ => rfl)] at hs1
        rw [show (stepsUp ps k).set 0 ⟨((stepsUp ps k).getD 0 default).nd, 0, ((stepsUp ps k).getD 0 default).eg⟩ = fin1 (stepsUp ps k) from rfl] at hs1
        obtain ⟨hs3, hs4⟩ := hs1.stored (m * 3 + 2) (.int .i64 0)
        rw [rowC_set (fin1 (stepsUp ps k)) m 2 ⟨(lastS (fin1 (stepsUp ps k))).nd, (lastS (fin1 (stepsUp ps k))).ing, 0⟩ _ (by rw [fin1_len]; have := hmL.out; have := hL.out; omega) (by decide) (fun q hq => by
          have hh := hmL.out
          have hh2 := hL.out
          have e : (fin1 (stepsUp ps k)).getD m default = lastS (fin1 (stepsUp ps k)) := by unfold lastS; rw [fin1_len, ← hh2, hh]; rfl
          show _ = if q = 2 then _ else TStep.cell ((fin1 (stepsUp ps k)).getD m default) q
          rw [e]
          match q, hq with
          | 0, _ => rfl
          | 1, _ => rfl
          | 2, _ => rfl)] at hs3
        have HP := Lib.hid (show pathSt ps k = (fin1 (stepsUp ps k)).set m ⟨(lastS (fin1 (stepsUp ps k))).nd, (lastS (fin1 (stepsUp ps k))).ing, 0⟩ by
          have hh := hmL.out
          have hh2 := hL.out
          unfold pathSt finS
          rw [if_neg (by omega)]
          unfold fin2
          rw [fin1_len, ← hh2, hh]
          rfl)
        have M1 := hM.appR hs2 (fun q hq => by cases hq; exact hg.1)
        have M2 := M1.appR hs4 (fun q hq => by cases hq; exact hg.1)
        go_wp2_with fail
        go_ret
        exact OutRows.of (by decide) (own_lowR (by rw [HP.out]; exact hs3) M0.size) (M0.trans M2)

theorem take_snoc {α : Type} [Inhabited α] (l : List α) {k : Nat} (h : k < l.length) : l.take (k + 1) = l.take k ++ [l.getD k default] := by
  rw [List.getD_eq_getElem?_getD, List.getElem?_eq_getElem h, List.take_add_one, List.getElem?_eq_getElem h]; rfl
end Go.Proofs.YtifhhfndoifbhaaGreat
