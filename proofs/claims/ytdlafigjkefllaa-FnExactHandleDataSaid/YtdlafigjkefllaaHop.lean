
/- The MAC, by the program and by the model. -/
import Derived.Test.YtdlafigjkefllaaDig
import Derived.Handy
namespace Go.Proofs.Ytdlafigjkefllaa
open Go.ChangeShapes Go.WideShapes Go.ChangeAt Go.RowKit
set_option linter.unusedVariables false
def macV (key : Int) (zs : List Int) : Int := digN (key :: (zs ++ [key])) (zs.length + 2)

theorem mac_fits {key : Int} {zs : List Int} (hk : (Lit.int .i64 key).wf = true) (h : ∀ z ∈ zs, (Lit.int .i64 z).wf = true) : ∀ z ∈ [key] ++ zs ++ [key], (Lit.int .i64 z).wf = true := by
  intro z hz
  simp only [List.mem_append, List.mem_singleton] at hz
  rcases hz with (rfl | hz) | rfl
  · exact hk
  · exact h z hz
  · exact hk

end Go.Proofs.Ytdlafigjkefllaa
namespace Go.Proofs.Ytdlafigjkefllaa
open Go.ChangeShapes Go.WideShapes Go.ChangeAt Go.RowKit
set_option linter.unusedVariables false
def hopA (a i e x m : Int) : Value := .agg #[.int .i64 a, .int .i64 i, .int .i64 e, .int .i64 x, .int .i64 m]

set_option maxRecDepth 100000 in
set_option maxHeartbeats 800000 in
theorem toHop (a i e x m : Int) (w : World) :
    Calls Try.prog 107 #[.agg #[.int .i64 a, .int .i64 i, .int .i64 e, .int .i64 x, .int .i64 m]] w fun en w' => en = .returned (.agg #[.int .i64 a, .int .i64 i, .int .i64 e, .int .i64 x, .int .i64 m]) ∧ Below w.heap.size w w' := by
  go_enter Try.func107, Try.ntmps107
  go_wp2
  refine bodyPost_ret (v := .agg #[.int .i64 a, .int .i64 i, .int .i64 e, .int .i64 x, .int .i64 m]) (by simp [results, Try.results107, go_sem]) rfl ⟨rfl, ?_⟩
  go_grown

/-- Old cells behind a call, as rules for the walk. -/
theorem kept_cells {W w1 : World} (hb : Below W.heap.size W w1) : (∀ b o, b < W.heap.size → w1.cell? ⟨b, o, none⟩ = W.cell? ⟨b, o, none⟩) ∧ (∀ b o, b < W.heap.size → w1.frozen? ⟨b, o, none⟩ = W.frozen? ⟨b, o, none⟩) :=
  ⟨fun b o h => hb.cell (p := ⟨b, o, none⟩) h, fun b o h => hb.frozen (p := ⟨b, o, none⟩) h⟩
def hopL (t b a i e x : Int) : List Int := [t, b, a, i, e, x]
theorem hop_fits {t b a i e x : Int} (ht : (Lit.int .i64 t).wf = true) (hb : (Lit.int .i64 b).wf = true) (ha : (Lit.int .i64 a).wf = true) (hi : (Lit.int .i64 i).wf = true) (he : (Lit.int .i64 e).wf = true) (hx : (Lit.int .i64 x).wf = true) : ∀ z ∈ hopL t b a i e x, (Lit.int .i64 z).wf = true := by
  intro z hz
  simp only [hopL, List.mem_cons, List.not_mem_nil, or_false] at hz
  rcases hz with rfl | rfl | rfl | rfl | rfl | rfl <;> assumption
theorem has_lit (w : World) (e : TypeId) (zs : List Int) (n : Nat) (hn : n = zs.length) : Has .i64 (w.alloc (.cells (zs.map (Value.int .i64)).toArray e)) (w.alloc (.cells (zs.map (Value.int .i64)).toArray e)).heap.size (some ⟨w.heap.size, 0, none⟩) n zs := by
  subst hn
  refine ⟨rfl, fun _ => ⟨_, 0, rfl, by simp, fun i hi => ?_⟩⟩
  rw [World.cell?_alloc_at _ _ _ _ rfl]
  simp [List.getD_eq_getElem?_getD, hi]

set_option maxRecDepth 100000 in
theorem eqHopSame (a i e x m : Int) (w : World) :
    Calls Try.prog 102 #[.agg #[.int .i64 a, .int .i64 i, .int .i64 e, .int .i64 x, .int .i64 m], .agg #[.int .i64 a, .int .i64 i, .int .i64 e, .int .i64 x, .int .i64 m]] w fun en w' => en = .returned (.bool true) ∧ Below w.heap.size w w' := by
  go_enter Try.func102, Try.ntmps102
  go_wp2
  go_ret
  exact ⟨rfl, by go_grown⟩
end Go.Proofs.Ytdlafigjkefllaa
