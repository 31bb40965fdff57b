
/- What a hop states, by the program; lists of the numbers of hops. -/
import Derived.Test.YtiphndgmgpiodaaApp
import Derived.Test.YtiphndgmgpiodaaSHop
namespace Go.Proofs.Ytiphndgmgpiodaa
open Go.ChangeShapes Go.WideShapes Go.ChangeAt Go.RowKit
set_option linter.unusedVariables false
def hopF (x : THop) : List Int := [x.nd, x.ing, x.eg, x.exp, x.mac]
def hopsN (hs : List THop) : Nat → List Int
  | 0 => []
  | k + 1 => hopsN hs k ++ hopF (hs.getD k default)
theorem hopsN_len (hs : List THop) : ∀ k, (hopsN hs k).length = 5 * k
  | 0 => rfl
  | k + 1 => by rw [hopsN, List.length_append, hopsN_len hs k]; simp [hopF]; omega
theorem lit_has (w : World) (e : TypeId) (zs : List Int) (n : Nat) (hn : n = zs.length) : Has .i64 (w.alloc (.cells (zs.map (Value.int .i64)).toArray e)) (w.alloc (.cells (zs.map (Value.int .i64)).toArray e)).heap.size (some ⟨w.heap.size, 0, none⟩) n zs := by
  subst hn
  refine ⟨rfl, fun _ => ⟨_, 0, rfl, by simp, fun i hi => ?_⟩⟩
  rw [World.cell?_alloc_at _ _ _ _ rfl]
  simp [List.getD_eq_getElem?_getD, hi]
theorem own_kept {w w' : World} {lo n : Nat} {e : TypeId} {v : Value} {xs : List Value} (h : w.ownsRow lo e 1 v n xs) (m : Mk0 w w') : w'.ownsRow lo e 1 v n xs :=
  h.kept (row := none) ⟨m.os, m.tape, m.output, m.size, fun g hg _ => m.block g hg (.inr (Nat.zero_le _))⟩ (by cases hv : v.ownBlock with | none => exact .inl rfl | some g => exact .inr (by simp))
/-- What a call's growth at its own row leaves alone. -/
theorem Mk.app {w0 w w' : World} {g : Option Nat} (h : Mk0 w0 w) (hg : w.grownBy w' g) (hr : ∀ q, g = some q → w0.heap.size ≤ q) : Mk0 w0 w' :=
  ⟨hg.os.trans h.os, hg.tape.trans h.tape, hg.output.trans h.output, Nat.le_trans h.size hg.size, fun k hk hr' => (hg.block k (Nat.lt_of_lt_of_le hk h.size) (fun e => by have := hr _ e.symm; omega)).trans (h.block k hk hr')⟩

set_option maxRecDepth 100000 in
set_option maxHeartbeats 4000000 in
theorem hopStat (x : THop) (w : World) :
    Calls Try.prog 148 #[.agg #[.int .i64 x.nd, .int .i64 x.ing, .int .i64 x.eg, .int .i64 x.exp, .int .i64 x.mac]] w fun en w' => en = .returned (.slice (some ⟨w.heap.size + 1, 0, none⟩) 4 4) ∧ w'.ownsRow w.heap.size 3 1 (.slice (some ⟨w.heap.size + 1, 0, none⟩) 4 4) 4 ([x.nd, x.ing, x.eg, x.exp].map (.int .i64)) ∧ Mk0 w w' := by
  go_enter Try.func148, Try.ntmps148
  go_wp2
  go_ret
  refine ⟨rfl, ?_, (Mk.alloc w (Obj.cells #[Value.int .i64 x.nd, Value.int .i64 x.ing, Value.int .i64 x.eg, Value.int .i64 x.exp, Value.int .i64 x.mac] 24)).new _⟩
  have h := own_lit (w.alloc (Obj.cells #[Value.int .i64 x.nd, Value.int .i64 x.ing, Value.int .i64 x.eg, Value.int .i64 x.exp, Value.int .i64 x.mac] 24)) 3 ([x.nd, x.ing, x.eg, x.exp].map (.int .i64)) (by simp)
  rw [World.size_alloc w] at h
  exact own_low h (by omega)

end Go.Proofs.Ytiphndgmgpiodaa
