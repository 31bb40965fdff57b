
/- Signatures of lists of integers, of both sides. -/
import Derived.Test.YtoicmmandniagaaMac
import Derived.Test.YtoicmmandniagaaRow
import Derived.Test.YtoicmmandniagaaRet
namespace Go.Proofs.Ytoicmmandniagaa
open Go.ChangeShapes Go.WideShapes Go.ChangeAt Go.RowKit
set_option linter.unusedVariables false
theorem sign_fits {zs : List Int} (h : ∀ z ∈ zs, (Lit.int .i64 z).wf = true) : ∀ z ∈ [77] ++ zs, (Lit.int .i64 z).wf = true := by
  intro z hz
  simp only [List.mem_append, List.mem_cons, List.not_mem_nil, or_false] at hz
  rcases hz with rfl | hz
  · decide
  · exact h z hz

set_option maxRecDepth 100000 in
set_option maxHeartbeats 4000000 in
theorem specSign (key : Int) (a : Option Addr) (n c : Nat) (zs : List Int) (w : World) (hk : (Lit.int .i64 key).wf = true) (h : Has .i64 w w.heap.size a n zs) (hc0 : a = none → c = 0) (hf : ∀ z ∈ zs, (Lit.int .i64 z).wf = true) (hn : n ≤ 1048576) :
    Calls Try.prog 47 #[.int .i64 key, .slice a n c] w fun e w' => e = .returned (.int .i64 (macV key ([77] ++ zs))) ∧ Below w.heap.size w w' := by
  have HF := Lib.hid (sign_fits hf)
  have HC := Lib.hid hc0
  clear hf hc0
  obtain ⟨i0, hi, hz0, hz1, hz2⟩ := info_parts infoI64
  have ha := h.alloc (.cells #[.int .i64 77] 3)
  have ho := own_lit w 3 [.int .i64 77] (by simp)
  have hb : Below w.heap.size w (w.alloc (.cells #[.int .i64 77] 3)) := (Below.refl _ _).alloc (Nat.le_refl _) _
  go_enter Try.func47, Try.ntmps47
  go_wp2_with (at_builtin; refine wpList_app rfl (.tmp 6) (.tmp 7) 55 rfl w.heap.size 3 i0 Try.underlying55 hi hz0 hz1 (by rw [hz2]; decide) _ [77] 1 rfl ho a n c zs rfl HC.out ha (by omega) hb.size ?_; intro v1 w1 ho1 hg1 _)
  have hb1 := hb.grown hg1 hb.size (fun g hg => (ho.lt g hg).1)
  obtain ⟨A, cc, rfl, hc2⟩ := ownsRow_slice ho1
  have hq := ownsRow_own ho1
  have HC2 := Lib.hid hc2
  clear ho1 ho hc2
  go_wp2_with fail
  refine (specMAC key A (1 + n) cc ([77] ++ zs) _ hk hq.has HC2.out HF.out (by omega)).mono ?_
  rintro e w2 ⟨rfl, hb2⟩
  go_wp2_with fail
  go_ret
  exact ⟨rfl, Below.seq hb1 hb2⟩

set_option maxRecDepth 100000 in
set_option maxHeartbeats 4000000 in
theorem implSign (key : Int) (a : Option Addr) (n c : Nat) (zs : List Int) (w : World) (hk : (Lit.int .i64 key).wf = true) (h : Has .i64 w w.heap.size a n zs) (hc0 : a = none → c = 0) (hf : ∀ z ∈ zs, (Lit.int .i64 z).wf = true) (hn : n ≤ 1048576) :
    Calls Try.prog 84 #[.int .i64 key, .slice a n c] w fun e w' => e = .returned (.int .i64 (macV key ([77] ++ zs))) ∧ Below w.heap.size w w' := by
  have HL := Lib.hid h.1
  have HF := Lib.hid (sign_fits hf)
  have HC := Lib.hid hc0
  clear hf hc0
  go_enter Try.func84, Try.ntmps84
  go_wp2_with fail
  have b1 : Below w.heap.size w (w.alloc (.cells #[.int .i64 77] 3)) := (Below.refl _ _).alloc (Nat.le_refl _) _
  have hp : Parts ((w.alloc (.cells #[.int .i64 77] 3)).alloc (.cells #[.slice (some ⟨w.heap.size, 0, none⟩) 1 1, .slice a n c] 55)) (w.heap.size + 1) 0 [[77], zs] := by
    refine ⟨by simp, fun j hj => ?_⟩
    match j, hj with
    | 0, _ => exact ⟨_, 1, 1, World.cell?_alloc_at _ _ _ _ (by simp), (fun h => by cases h), (has_new .i64 w _ 77).alloc _⟩
    | 1, _ => exact ⟨a, n, c, World.cell?_alloc_at _ _ _ _ (by simp), HC.out, (h.alloc _).alloc _⟩
  have hfl : ([[77], zs] : List (List Int)).flatten = [77] ++ zs := by simp
  have hfn : ([[77], zs] : List (List Int)).flatten.length = 1 + n := by have := HL.out; rw [hfl]; simp; omega
  refine (concatInts _ 0 2 _ _ hp (by simp) (by omega) (by omega)).mono ?_
  rw [hfn, hfl]
  rintro e w1 ⟨v, rfl, hown, hb1⟩
  obtain ⟨A, cc, rfl, hc2⟩ := ownsRow_slice hown
  have ho := ownsRow_own hown
  have HC2 := Lib.hid hc2
  have B2 : Below w.heap.size w w1 := (b1.alloc (by simp) _).trans (hb1.mono (by simp; omega))
  clear hown hfl hfn hp hc2
  go_wp2_with fail
  refine (implMAC key A (1 + n) cc ([77] ++ zs) _ hk ho.has HC2.out HF.out (by omega)).mono ?_
  rintro e w2 ⟨rfl, hb2⟩
  go_wp2_with fail
  go_ret
  exact ⟨rfl, Below.seq B2 hb2⟩
end Go.Proofs.Ytoicmmandniagaa
