
/- Parts of a path: reversed kinds, the interfaces at a hop, the value behind i hops, of both sides. -/
import Derived.Test.YtdlafigjkefllaaCPathPart
import Derived.Test.YtdlafigjkefllaaRow
import Derived.Test.YtdlafigjkefllaaInR
import Derived.Test.YtdlafigjkefllaaDig
import Derived.Deep.QuietTactic
import Derived.BigQuiet
import Derived.Test.YtdlafigjkefllaaVerify
namespace Go.Proofs.Ytdlafigjkefllaa
open Go.ChangeShapes Go.WideShapes Go.ChangeAt Go.RowKit
set_option linter.unusedVariables false
def revB (k : Int) : Bool := (k == 1) || (k == 3)
def pInV (k : Int) (zs : List THop) (n : Nat) (i : Int) : Int := if 0 ≤ i ∧ i < n then (if revB k = true then (zs.getD i.toNat default).eg else (zs.getD i.toNat default).ing) else 0
def pOutV (k : Int) (zs : List THop) (n : Nat) (i : Int) : Int := if 0 ≤ i ∧ i < n then (if revB k = true then (zs.getD i.toNat default).ing else (zs.getD i.toNat default).eg) else 0
theorem pIn_out {k : Int} {zs : List THop} {n : Nat} {i : Int} (h : i < 0 ∨ (n : Int) ≤ i) : pInV k zs n i = 0 := if_neg (by omega)
theorem pOut_out {k : Int} {zs : List THop} {n : Nat} {i : Int} (h : i < 0 ∨ (n : Int) ≤ i) : pOutV k zs n i = 0 := if_neg (by omega)
theorem pIn_at {k : Int} {zs : List THop} {n q : Nat} {x : THop} (h : q < n) (hx : x = zs.getD q default) : pInV k zs n (q : Int) = if revB k = true then x.eg else x.ing := by
  subst hx; unfold pInV; rw [if_pos ⟨by omega, by omega⟩, show ((q : Nat) : Int).toNat = q by omega]
theorem pOut_at {k : Int} {zs : List THop} {n q : Nat} {x : THop} (h : q < n) (hx : x = zs.getD q default) : pOutV k zs n (q : Int) = if revB k = true then x.ing else x.eg := by
  subst hx; unfold pOutV; rw [if_pos ⟨by omega, by omega⟩, show ((q : Nat) : Int).toNat = q by omega]
def pass (k b m : Int) : Int := if revB k = true then subM b m else addM b m
def passN (k b : Int) (zs : List THop) : Nat → Int
  | 0 => b
  | j + 1 => pass k (passN k b zs j) (zs.getD j default).mac
def afterV (k b : Int) (zs : List THop) (n : Nat) (i : Int) : Int := if 0 ≤ i ∧ i ≤ n then passN k b zs i.toNat else 0
theorem after_in {k b : Int} {zs : List THop} {n q : Nat} (h : q ≤ n) : afterV k b zs n (q : Int) = passN k b zs q := by
  unfold afterV; rw [if_pos ⟨by omega, by omega⟩, show ((q : Nat) : Int).toNat = q by omega]
theorem after_out {k b : Int} {zs : List THop} {n : Nat} {i : Int} (h : i < 0 ∨ (n : Int) < i) : afterV k b zs n i = 0 := if_neg (by omega)
theorem pass_t {k b m : Int} (h : revB k = true) : pass k b m = subM b m := if_pos h
theorem pass_f {k b m : Int} (h : revB k = false) : pass k b m = addM b m := if_neg (by simp [h])

theorem ret_p {a b c d : Int} (h : a = b) (k : c = d) : Ending.returned (.tuple #[.int .i64 b, .int .i64 d]) = .returned (.tuple #[.int .i64 a, .int .i64 c]) := by rw [h, k]

end Go.Proofs.Ytdlafigjkefllaa
namespace Go.Proofs.Ytdlafigjkefllaa
open Go.ChangeShapes Go.WideShapes Go.ChangeAt Go.RowKit
set_option linter.unusedVariables false
/-- The value that hop k's MAC covers. -/
def atV (k b : Int) (hs : List THop) (j : Nat) : Int := if revB k = true then passN k b hs (j + 1) else passN k b hs j
def vhT (zs : List TAS) (n : Nat) (t b : Int) (x : THop) : Bool := vhB zs n t b x.nd x.ing x.eg x.exp x.mac
def vpTo (zs : List TAS) (n0 : Nat) (k t b : Int) (hs : List THop) : Nat → Bool
  | 0 => true
  | j + 1 => vpTo zs n0 k t b hs j && vhT zs n0 t (atV k b hs j) (hs.getD j default)
theorem vpTo_stop {zs : List TAS} {n0 : Nat} {k t b : Int} {hs : List THop} {j : Nat} (h : vhT zs n0 t (atV k b hs j) (hs.getD j default) = false) : ∀ n, j < n → vpTo zs n0 k t b hs n = false
  | 0, hk => absurd hk (by omega)
  | n + 1, hk => by
    rw [vpTo]
    by_cases e : j = n
    · subst e; rw [h]; simp
    · rw [vpTo_stop h n (by omega)]; rfl
theorem vpTo_go {zs : List TAS} {n0 : Nat} {k t b : Int} {hs : List THop} {j : Nat} (h0 : vpTo zs n0 k t b hs j = true) (h : vhT zs n0 t (atV k b hs j) (hs.getD j default) = true) : vpTo zs n0 k t b hs (j + 1) = true := by
  rw [vpTo, h0, h]; rfl
theorem addM_fits (b s : Int) : (Lit.int .i64 (addM b s)).wf = true := by
  have e1 : IntKind.i64.min = -9223372036854775808 := by decide
  have e2 : IntKind.i64.max = 9223372036854775807 := by decide
  simp only [Lit.wf, Bool.and_eq_true, decide_eq_true_eq]
  rw [e1, e2]
  unfold addM
  split <;> omega
theorem subM_fits (b s : Int) : (Lit.int .i64 (subM b s)).wf = true := by
  have e1 : IntKind.i64.min = -9223372036854775808 := by decide
  have e2 : IntKind.i64.max = 9223372036854775807 := by decide
  simp only [Lit.wf, Bool.and_eq_true, decide_eq_true_eq]
  rw [e1, e2]
  unfold subM
  split <;> omega
theorem pass_fits (k b m : Int) : (Lit.int .i64 (pass k b m)).wf = true := by
  unfold pass; split
  · exact subM_fits _ _
  · exact addM_fits _ _
theorem passN_fits {k b : Int} (hb : (Lit.int .i64 b).wf = true) (hs : List THop) : ∀ j, (Lit.int .i64 (passN k b hs j)).wf = true
  | 0 => hb
  | j + 1 => pass_fits _ _ _
theorem atV_fits {k b : Int} (hb : (Lit.int .i64 b).wf = true) (hs : List THop) (j : Nat) : (Lit.int .i64 (atV k b hs j)).wf = true := by
  unfold atV; split <;> exact passN_fits hb hs _
theorem hopfit {hs : List THop} {n j : Nat} (hl : hs.length = n) (hj : j < n) (hf : ∀ y ∈ hs, THop.fits y) {x : THop} (hx : x = hs.getD j default) : THop.fits x := by
  subst hx
  have : hs.getD j default ∈ hs := by
    rw [List.getD_eq_getElem?_getD, List.getElem?_eq_getElem (by omega)]
    exact List.getElem_mem _
  exact hf _ this
theorem hopL_fits {t b : Int} (ht : (Lit.int .i64 t).wf = true) (hb : (Lit.int .i64 b).wf = true) {x : THop} (hx : THop.fits x) : ∀ z ∈ hopL t b x.nd x.ing x.eg x.exp, (Lit.int .i64 z).wf = true :=
  hop_fits ht hb hx.1 hx.2.1 hx.2.2.1 hx.2.2.2.1

end Go.Proofs.Ytdlafigjkefllaa
namespace Go.Proofs.Ytdlafigjkefllaa
open Go Go.RowKit
set_option linter.unusedVariables false
def FillP (w : World) (b N : Nat) (p : Nat → Prop) (f : Nat → Value) : Prop := ∀ j, j < N → ∃ v, w.cell? ⟨b, j, none⟩ = some v ∧ w.frozen? ⟨b, j, none⟩ = false ∧ (p j → v = f j)
theorem Fill.toP {w : World} {b N : Nat} {f g : Nat → Value} (h : Fill w b 0 N 0 f) : FillP w b N (fun _ => False) g := fun j hj => by
  obtain ⟨v, h1, h2, _⟩ := h j hj
  rw [Nat.zero_add] at h1 h2
  exact ⟨v, h1, h2, fun h => h.elim⟩
theorem FillP.set {w : World} {b N : Nat} {p : Nat → Prop} {f : Nat → Value} (h : FillP w b N p f) {m : Nat} (hm : m < N) {u : Value} (hu : u = f m) : FillP (w.setCell ⟨b, m, none⟩ u) b N (fun j => p j ∨ j = m) f := by
  intro j hj
  obtain ⟨v, h1, h2, h3⟩ := h j hj
  by_cases e : j = m
  · subst e
    exact ⟨u, World.cell?_setCell_same _ _ _ h1, by rw [World.frozen?_setCell]; exact h2, fun _ => hu⟩
  · refine ⟨v, ?_, by rw [World.frozen?_setCell]; exact h2, fun hp => h3 (hp.resolve_right e)⟩
    rw [World.cell?_setCell_other _ _ _ _ (fun h => by simp only [Addr.mk.injEq] at h; omega)]
    exact h1
theorem FillP.any {w : World} {b N : Nat} {p : Nat → Prop} {f : Nat → Value} (h : FillP w b N p f) {j : Nat} (hj : j < N) : ∃ v, w.cell? ⟨b, j, none⟩ = some v ∧ w.frozen? ⟨b, j, none⟩ = false := by
  obtain ⟨v, h1, h2, _⟩ := h j hj
  exact ⟨v, h1, h2⟩
theorem FillP.mono {w : World} {b N : Nat} {p q : Nat → Prop} {f : Nat → Value} (h : FillP w b N p f) (hq : ∀ j, j < N → q j → p j) : FillP w b N q f := fun j hj => by
  obtain ⟨v, h1, h2, h3⟩ := h j hj
  exact ⟨v, h1, h2, fun hp => h3 (hq j hj hp)⟩
theorem FillP.keep {w w' : World} {b N : Nat} {p : Nat → Prop} {f : Nat → Value} (h : FillP w b N p f) (hm : Mk0 w w') : FillP w' b N p f := fun j hj => by
  obtain ⟨v, h1, h2, h3⟩ := h j hj
  exact ⟨v, hm.cellAt h1, hm.frozenAt h1 h2, h3⟩
theorem FillP.all {w : World} {b N : Nat} {f : Nat → Value} (h : FillP w b N (fun _ => True) f) : Fill w b 0 N N f := fun j hj => by
  obtain ⟨v, h1, h2, h3⟩ := h j hj
  rw [Nat.zero_add]
  exact ⟨v, h1, h2, fun _ => h3 trivial⟩
def turnL {α : Type} [Inhabited α] (g : α → α) (zs : List α) (n : Nat) : List α := (List.range n).map fun j => g (zs.getD (n - 1 - j) default)
theorem turnL_len {α : Type} [Inhabited α] (g : α → α) (zs : List α) (n : Nat) : (turnL g zs n).length = n := by simp [turnL]
theorem turnL_at {α : Type} [Inhabited α] (g : α → α) (zs : List α) (n j : Nat) (h : j < n) : (turnL g zs n).getD j default = g (zs.getD (n - 1 - j) default) := by
  simp [turnL, List.getD_eq_getElem?_getD, h]
theorem turnL_take {α : Type} [Inhabited α] (g : α → α) (zs : List α) (n k : Nat) (h : k < n) : (turnL g zs n).take (k + 1) = (turnL g zs n).take k ++ [g (zs.getD (n - 1 - k) default)] := by
  rw [List.take_succ_eq_append_getElem (by rw [turnL_len]; exact h)]
  congr 2
  simp [turnL]
end Go.Proofs.Ytdlafigjkefllaa
