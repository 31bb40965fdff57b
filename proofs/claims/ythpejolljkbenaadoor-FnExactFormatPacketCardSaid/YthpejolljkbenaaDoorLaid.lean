
/- The library's table of powers of ten, as a row lists it; FormatInt of the program, by the shelf's contract on strconv.Itoa. -/
import Derived.Test.YthpejolljkbenaaDoorRows
import Derived.Test.YthpejolljkbenaaDoorShelf
import Derived.Lib.LaidTab
import Derived.WalkKit
import Derived.Handy
import Derived.Below
import Derived.Sort.Grow
namespace Go.Proofs.YthpejolljkbenaaDoor
open Go.ChangeShapes Go.WideShapes Go.ChangeAt Go.RowKit
set_option linter.unusedVariables false

/-- The variables listed at W, one after the other; the places left open. -/
def Listed (W : World) (l : List (String × DataW Unit)) : Prop := ∃ ps, DataW.LaidVars Tryd.prog W l ps
theorem laid_drop0 {W : World} {l : List (String × DataW Unit)} (h : laidMet Tryd.prog l W) : Listed W l := by
  obtain ⟨ps, h, _⟩ := h
  exact ⟨ps, h⟩
theorem listed_tail {W : World} {x : String × DataW Unit} {l : List (String × DataW Unit)} (h : Listed W (x :: l)) : Listed W l := by
  obtain ⟨ps, g, t, cs, fuel, p, q, _, _, _, _, h, _⟩ := h
  exact ⟨q, h⟩
theorem laid_drop1 {W : World} {x : String × DataW Unit} {l : List (String × DataW Unit)} (h : laidMet Tryd.prog (x :: l) W) : Listed W l := listed_tail (laid_drop0 h)
theorem laid_drop2 {W : World} {x y : String × DataW Unit} {l : List (String × DataW Unit)} (h : laidMet Tryd.prog (x :: y :: l) W) : Listed W l := listed_tail (laid_drop1 h)
theorem laid_drop3 {W : World} {x y z : String × DataW Unit} {l : List (String × DataW Unit)} (h : laidMet Tryd.prog (x :: y :: z :: l) W) : Listed W l := listed_tail (laid_drop2 h)

theorem tab_of {W : World} {name : String} {k : IntKind} {zs : List Int} {rest : List (String × DataW Unit)} {g : Nat} {t e : TypeId} {n : Nat}
    (hg : Tryd.prog.globalNamed name = some g) (hty : (Tryd.prog.globals[g]?).map (·.type) = some t) (ht : Tryd.prog.underlying t = some (.array n e)) (he : Tryd.prog.underlying e = some (.int k)) (hce : Tryd.prog.cellsOf e = 1) (hct : Tryd.prog.cellsOf t = n)
    (h : Listed W ((name, Lib.tabData k zs) :: rest)) : Lib.TabIs Tryd.prog W name k zs := by
  obtain ⟨ps, g', t', cs, fuel, p, q, hg', ht', hvar, hd, _, _⟩ := h
  obtain rfl := Option.some.inj (hg.symm.trans hg')
  obtain rfl := Option.some.inj (hty.symm.trans ht')
  unfold Lib.TabIs
  rw [hvar, ← Lib.cells_of_tab ht he hce hct hd]

theorem pow10_list : Lib.pow10Tab = [1, 10, 100, 1000, 10000, 100000, 1000000, 10000000, 100000000, 1000000000, 10000000000, 100000000000, 1000000000000, 10000000000000, 100000000000000, 1000000000000000, 10000000000000000, 100000000000000000, 1000000000000000000, 10000000000000000000] := by decide +kernel
theorem pow10_of {W : World} {rest : List (String × DataW Unit)} (h : Listed W (("internal/strconv.uint64pow10", Rows.laid_internal_strconv_uint64pow10) :: rest)) : Lib.TabIs Tryd.prog W "internal/strconv.uint64pow10" .u64 Lib.pow10Tab := by
  rw [pow10_list]
  exact tab_of (g := 1) (t := 162) (e := 153) (n := 20) (by kernel_rfl) (by kernel_rfl) Tryd.underlying162 Tryd.underlying153 (by kernel_rfl) (by kernel_rfl) h

theorem below_grow (w : World) (k : Nat) (os : Array Obj) : Below w.heap.size w (Sort.grow (w.drewN k) os) := by
  have h : ∀ k (v : World), Below w.heap.size w v → Below w.heap.size w (v.drewN k) := by
    intro k
    induction k with
    | zero => intro v hv; exact hv
    | succ k ih => intro v hv; exact (ih _ hv).drew
  have h1 := h k w (Below.refl _ _)
  refine ⟨h1.os, h1.tape, h1.output, ?_, fun i hi => ?_⟩
  · exact Nat.le_trans h1.size (by simp [Sort.grow])
  · rw [← h1.block i hi]
    exact Array.getElem?_append_left (Nat.lt_of_lt_of_le hi h1.size)

/-- A variable lies below what a call makes. -/
theorem var_below {w w' : World} {n : String} {cs : Array Value} (h : w.var? Tryd.prog n = some cs) (hb : Below w.heap.size w w') : w'.var? Tryd.prog n = some cs := by
  unfold World.var? at h ⊢
  cases hg : Tryd.prog.globalNamed n with
  | none => rw [hg] at h; cases h
  | some g =>
    rw [hg] at h
    simp only [Option.bind_some] at h ⊢
    have hlt : g < w.heap.size := by
      rcases Nat.lt_or_ge g w.heap.size with h' | h'
      · exact h'
      · rw [Array.getElem?_eq_none h'] at h; cases h
    rw [hb.block g hlt]
    exact h
theorem tab_below {w w' : World} {k : IntKind} {zs : List Int} (h : Lib.TabIs Tryd.prog w "internal/strconv.uint64pow10" k zs) (hb : Below w.heap.size w w') : Lib.TabIs Tryd.prog w' "internal/strconv.uint64pow10" k zs := var_below h hb

/-- The program's FormatInt at every 64-bit integer. -/
theorem implFormatInt (n : Int) (h0 : -9223372036854775808 ≤ n) (h1 : n ≤ 9223372036854775807) (w : World) (htab : Lib.TabIs Tryd.prog w "internal/strconv.uint64pow10" .u64 Lib.pow10Tab) :
    Calls Tryd.prog 53 #[.int .i64 n] w fun e w' => e = .returned (.string ⟨(Lib.itoa n).toArray⟩) ∧ Below w.heap.size w w' := by
  go_enter Tryd.func53, Tryd.ntmps53
  go_wp2_with fail
  refine (Tryd.strconv_Itoa n h0 h1 _ htab).mono ?_
  rintro e w' ⟨rfl, k, os, rfl⟩
  go_wp2_with fail
  go_ret
  exact ⟨rfl, below_grow w k os⟩
end Go.Proofs.YthpejolljkbenaaDoor
