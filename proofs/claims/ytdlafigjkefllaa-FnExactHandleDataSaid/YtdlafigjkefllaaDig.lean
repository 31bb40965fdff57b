
/- append of a row of integers to a row of the call's own; what a call's own row reads as. -/
import Derived.Test.YtdlafigjkefllaaRow
import Derived.Handy
import Derived.OwnWalk
import Derived.Maps.AppendAt
import Derived.Laws.AppendOwnNone
import Derived.Lib.AppendZeros
import Derived.Deep.QuietTactic
import Derived.BigQuiet
import Derived.Test.YtdlafigjkefllaaRows
import Derived.Below
import Derived.Lib.Hide
namespace Go.Proofs.Ytdlafigjkefllaa
open Go Go.RowKit
set_option linter.unusedVariables false

theorem own_lit (w : World) (e : TypeId) (us : List Value) (hm : us.length ≤ 1073741824) :
    (w.alloc (.cells us.toArray e)).ownsRow w.heap.size e 1 (.slice (some ⟨w.heap.size, 0, none⟩) us.length us.length) us.length us := by
  refine ⟨by simp, .inr ⟨w.heap.size, us.length, us.toArray, rfl, Nat.le_refl _, heap_alloc_new w _, Nat.le_refl _, by unfold maxLen; omega, by simp, by simp⟩⟩

theorem ownsRow_slice {w : World} {lo n : Nat} {e : TypeId} {v : Value} {xs : List Value} (h : w.ownsRow lo e 1 v n xs) : ∃ A c, v = .slice A n c ∧ (A = none → c = 0) := by
  rcases h.2 with ⟨rfl, rfl⟩ | ⟨g, cap, cur, rfl, _⟩
  · exact ⟨none, 0, rfl, fun _ => rfl⟩
  · exact ⟨_, cap, rfl, fun h => by cases h⟩

theorem ownsRow_own {k : IntKind} {w : World} {lo n c : Nat} {e : TypeId} {A : Option Addr} {zs : List Int} (h : w.ownsRow lo e 1 (.slice A n c) n (zs.map (.int k))) : Own k w lo A n zs := by
  have hl : zs.length = n := by have := h.1; simpa using this
  refine ⟨hl, fun hn => ?_⟩
  have h2 := h.2
  rcases h2 with ⟨h', h0⟩ | ⟨g, cap, cur, h', hlo, hh, _⟩
  · omega
  · simp only [Value.slice.injEq, true_and] at h'
    obtain ⟨rfl, rfl⟩ := h'
    refine ⟨g, 0, rfl, hlo, ?_, fun i hi => ⟨?_, ?_⟩⟩
    · rcases Nat.lt_or_ge g w.heap.size with h' | h'
      · exact h'
      · rw [Array.getElem?_eq_none h'] at hh; cases hh
    · rw [Nat.zero_add, h.cellAt i (by omega)]
      simp [List.getD_eq_getElem?_getD, hl, hi]
    · rw [Nat.zero_add]; exact h.frozenAt i

theorem OutR.of {k : IntKind} {w w' : World} {R : List Int} {v : Value} {n : Nat} {e : TypeId} (h : w'.ownsRow w.heap.size e 1 v n (R.map (.int k))) (hb : Below w.heap.size w w') : OutR k w R (.returned v) w' := by
  obtain ⟨A, c, rfl, hc⟩ := ownsRow_slice h
  exact ⟨A, n, c, rfl, hc, ownsRow_own h, hb⟩
theorem own_low {w : World} {lo lo' n : Nat} {e : TypeId} {v : Value} {xs : List Value} (h : w.ownsRow lo' e 1 v n xs) (hl : lo ≤ lo') : w.ownsRow lo e 1 v n xs := by
  refine ⟨h.1, ?_⟩
  rcases h.2 with h' | ⟨g, cap, cur, h1, h2, h3⟩
  · exact .inl h'
  · exact .inr ⟨g, cap, cur, h1, by omega, h3⟩
theorem has_new (k : IntKind) (w : World) (e : TypeId) (u : Int) : Has k (w.alloc (.cells #[.int k u] e)) (w.alloc (.cells #[.int k u] e)).heap.size (some ⟨w.heap.size, 0, none⟩) 1 [u] := by
  refine ⟨rfl, fun _ => ⟨_, 0, rfl, by simp, fun i hi => ?_⟩⟩
  obtain rfl : i = 0 := by omega
  simp

theorem Has.alloc {k : IntKind} {w : World} {A : Option Addr} {n : Nat} {zs : List Int} (h : Has k w w.heap.size A n zs) (o : Obj) : Has k (w.alloc o) (w.alloc o).heap.size A n zs :=
  h.next ((Below.refl _ _).alloc (Nat.le_refl _) o)

/-- append(v, s...), v the call's own, s whatever reads as ns. -/
theorem wpList_app {P : Program} {k : IntKind} {w : World} {ops : Array Oper} {rest : List Oper} {o : Oper} {a : Act} {Q : Exit → Act → World → Prop} (hgd : o.guard = none) (s x : Operand) (t : TypeId)
    (ho : o.op = .call { callee := .builtin .append, args := #[s, x], argTypes := #[t, t] })
    (lo : Nat) (e : TypeId) (i : TypeInfo) (ht : P.underlying t = some (.slice e)) (hi : P.info? e = some i) (hz : i.zero = some (.int k 0)) (hsize : i.size = 1) (hby : i.bytes ≤ 8)
    (v : Value) (zs : List Int) (n : Nat) (hs : a.eval s = v) (hown : w.ownsRow lo e 1 v n (zs.map (.int k)))
    (A : Option Addr) (m c : Nat) (ns : List Int) (hx : a.eval x = .slice A m c) (hc0 : A = none → c = 0) (hr : Has k w w.heap.size A m ns)
    (hmax : n + m ≤ 1073741824) (hlo : lo ≤ w.heap.size)
    (h : ∀ v' w', w'.ownsRow lo e 1 v' (n + m) ((zs ++ ns).map (.int k)) → w.grownBy w' v.ownBlock → (v'.ownBlock = v.ownBlock ∨ v'.ownBlock = some w.heap.size) → wpList P ops Q rest (a.put o.dst v') w') :
    wpList P ops Q (o :: rest) a w := by
  have hm := hr.1
  rcases A with _ | ad
  · have h0 : m = 0 := by
      rcases Nat.eq_zero_or_pos m with h0 | h0
      · exact h0
      · obtain ⟨b, off, hh, _⟩ := hr.2 h0
        cases hh
    subst h0
    obtain rfl : ns = [] := List.eq_nil_of_length_eq_zero hm
    obtain rfl := hc0 rfl
    exact wpList_append_own_none hgd s x t ho lo e i 1 ht hi v n (zs.map (.int k)) hs hown hx (h v w (by simpa using hown) (World.grownBy.refl w _) (.inl rfl))
  · refine wpList_append_own_at w hgd s x t ho lo e i (.int k 0) 1 i.bytes ht hi hz hsize rfl rfl (by decide) v n (zs.map (.int k)) hs hown ad m c (ns.map (.int k)) hx (by simp [hm]) ?_ (by simp [Value.oneCell'])
      (by unfold maxLen; omega) ?_ hlo (fun v' w' h1 h2 _ h4 => h v' w' (by simpa using h1) h2 h4)
    · intro j u hu
      have hj : j < m := by
        rcases Nat.lt_or_ge j m with hj | hj
        · exact hj
        · rw [List.getElem?_eq_none (by simp [hm]; omega)] at hu; cases hu
      obtain ⟨b, off, he, _, hcell⟩ := hr.2 (by omega)
      simp only [Option.some.injEq] at he
      subst he
      rw [add_plain, hcell j hj]
      rw [List.getElem?_map, List.getElem?_eq_getElem (by omega)] at hu
      simp only [Option.map_some, Option.some.injEq] at hu
      rw [← hu]
      simp [List.getD_eq_getElem?_getD, hm, hj]
    · exact Nat.le_trans (Nat.mul_le_mul hmax hby) (by decide)
end Go.Proofs.Ytdlafigjkefllaa
namespace Go.Proofs.Ytdlafigjkefllaa
open Go.ChangeShapes Go.WideShapes Go.ChangeAt Go.RowKit
set_option linter.unusedVariables false

theorem flat_succ (P : List (List Int)) (k : Nat) (h : k < P.length) : (P.take (k + 1)).flatten = (P.take k).flatten ++ P.getD k [] := by
  rw [List.take_succ_eq_append_getElem h, List.flatten_append]
  simp [List.getD_eq_getElem?_getD, h]
theorem flat_len (P : List (List Int)) (k : Nat) : (P.take k).flatten.length ≤ P.flatten.length := by
  have h : P.flatten = (P.take k).flatten ++ (P.drop k).flatten := by rw [← List.flatten_append, List.take_append_drop]
  rw [h, List.length_append]
  omega

/-- Parts of a slice of slices. -/
def Parts (w : World) (b off : Nat) (P : List (List Int)) : Prop :=
  b < w.heap.size ∧ ∀ j, j < P.length → ∃ A n c, w.cell? ⟨b, off + j, none⟩ = some (.slice A n c) ∧ (A = none → c = 0) ∧ Has .i64 w w.heap.size A n (P.getD j [])
theorem Parts.below {w w' : World} {b off : Nat} {P : List (List Int)} (h : Parts w b off P) (hb : Below w.heap.size w w') : Parts w' b off P :=
  ⟨Nat.lt_of_lt_of_le h.1 hb.size, fun j hj => by
    obtain ⟨A, n, c, h1, h2, h3⟩ := h.2 j hj
    exact ⟨A, n, c, by rw [hb.cell h.1]; exact h1, h2, h3.next hb⟩⟩

end Go.Proofs.Ytdlafigjkefllaa
namespace Go.Proofs.Ytdlafigjkefllaa
open Go.ChangeShapes Go.WideShapes Go.ChangeAt Go.RowKit
set_option linter.unusedVariables false
def modV (n m : Int) : Int := if 1 ≤ m ∧ m ≤ 1000000000000 then n % m else 0
theorem ret_int {a b : Int} (h : a = b) : Ending.returned (.int .i64 a) = .returned (.int .i64 b) := by rw [h]
theorem ret_bool {a b : Bool} (h : a = b) : Ending.returned (.bool a) = .returned (.bool b) := by rw [h]
theorem tmod_emod (a b : Int) (h : 0 < b) : a % b = if a.tmod b < 0 then a.tmod b + b else a.tmod b := by
  have h1 := Int.tmod_lt_of_pos a h
  have h2 := Int.lt_tmod_of_pos a h
  have h3 : a = b * a.tdiv b + a.tmod b := (Int.mul_tdiv_add_tmod a b).symm
  have h4 : a % b = a.tmod b % b := by
    have : (b * a.tdiv b + a.tmod b) % b = a.tmod b % b := by rw [Int.add_comm, Int.add_mul_emod_self_left]
    rw [← h3] at this; exact this
  rw [h4]
  by_cases c : a.tmod b < 0
  · rw [if_pos c, ← Int.add_emod_right]; exact Int.emod_eq_of_lt (by omega) (by omega)
  · rw [if_neg c]; exact Int.emod_eq_of_lt (by omega) h1

end Go.Proofs.Ytdlafigjkefllaa
namespace Go.Proofs.Ytdlafigjkefllaa
open Go.ChangeShapes Go.WideShapes Go.ChangeAt Go.RowKit
set_option linter.unusedVariables false
def addM (b s : Int) : Int := if 0 ≤ b ∧ b ≤ 2147483646 ∧ 0 ≤ s ∧ s ≤ 2147483646 then (b + s) % 2147483647 else 0
def subM (b s : Int) : Int := if 0 ≤ b ∧ b ≤ 2147483646 ∧ 0 ≤ s ∧ s ≤ 2147483646 then (b - s) % 2147483647 else 0
def keyB (k : Int) : Bool := if 1 ≤ k ∧ k ≤ 2147483646 then true else false
theorem tmod_small {x p : Int} (h1 : x < 0) (h2 : -p < x) : x.tmod p = x := by
  have h3 : (-x).tmod p = -x := Int.tmod_eq_of_lt (by omega) (by omega)
  rw [Int.neg_tmod] at h3
  omega
end Go.Proofs.Ytdlafigjkefllaa
namespace Go.Proofs.Ytdlafigjkefllaa
open Go.ChangeShapes Go.WideShapes Go.ChangeAt Go.RowKit
set_option linter.unusedVariables false
def digN (zs : List Int) : Nat → Int
  | 0 => 7
  | k + 1 => (digN zs k * 1000003 + modV (zs.getD k 0) 2147483647 + 11) % 2147483647
theorem digN_bd (zs : List Int) (k : Nat) : 0 ≤ digN zs k ∧ digN zs k ≤ 2147483646 := by
  cases k with
  | zero => simp [digN]
  | succ k => simp only [digN]; omega
theorem modV_bd (x : Int) : 0 ≤ modV x 2147483647 ∧ modV x 2147483647 ≤ 2147483646 := by
  have : modV x 2147483647 = x % 2147483647 := if_pos (by omega)
  omega
theorem modV_of (x : Int) : modV x 2147483647 = x % 2147483647 := if_pos (by omega)
theorem fit_at {zs : List Int} (h : ∀ z ∈ zs, (Lit.int .i64 z).wf = true) {i : Nat} (hi : i < zs.length) : -9223372036854775808 ≤ zs.getD i 0 ∧ zs.getD i 0 ≤ 9223372036854775807 := by
  have : zs.getD i 0 ∈ zs := by
    rw [List.getD_eq_getElem?_getD, List.getElem?_eq_getElem hi]
    exact List.getElem_mem _
  exact i64_of (h _ this)

end Go.Proofs.Ytdlafigjkefllaa
