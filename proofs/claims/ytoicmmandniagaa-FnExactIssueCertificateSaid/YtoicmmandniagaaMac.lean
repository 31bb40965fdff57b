
/- The MAC, by the program and by the model. -/
import Derived.Test.YtoicmmandniagaaConcat
import Derived.Test.YtoicmmandniagaaDig
namespace Go.Proofs.Ytoicmmandniagaa
open Go.ChangeShapes Go.WideShapes Go.ChangeAt Go.RowKit
set_option linter.unusedVariables false
def macV (key : Int) (zs : List Int) : Int := digN (key :: (zs ++ [key])) (zs.length + 2)

theorem mac_fits {key : Int} {zs : List Int} (hk : (Lit.int .i64 key).wf = true) (h : ∀ z ∈ zs, (Lit.int .i64 z).wf = true) : ∀ z ∈ [key] ++ zs ++ [key], (Lit.int .i64 z).wf = true := by
  intro z hz
  simp only [List.mem_append, List.mem_singleton] at hz
  rcases hz with (rfl | hz) | rfl
  · exact hk
  · exact h z hz
  · exact hk

set_option maxRecDepth 100000 in
set_option maxHeartbeats 1600000 in
theorem implMAC (key : Int) (a : Option Addr) (n c : Nat) (zs : List Int) (w : World) (hk : (Lit.int .i64 key).wf = true) (h : Has .i64 w w.heap.size a n zs) (hc0 : a = none → c = 0) (hf : ∀ z ∈ zs, (Lit.int .i64 z).wf = true) (hn : n ≤ 1048600) :
    Calls Try.prog 85 #[.int .i64 key, .slice a n c] w fun e w' => e = .returned (.int .i64 (macV key zs)) ∧ Below w.heap.size w w' := by
  have hl := h.1
  have HF := Lib.hid (mac_fits hk hf)
  have HC := Lib.hid hc0
  have HL := Lib.hid hl
  clear hf hc0 hl
  go_enter Try.func85, Try.ntmps85
  go_wp2_with fail
  have b1 : Below w.heap.size w ((w.alloc (.cells #[.int .i64 key] 3)).alloc (.cells #[.int .i64 key] 3)) := ((Below.refl _ _).alloc (Nat.le_refl _) _).alloc (by simp) _
  have hp : Parts (((w.alloc (.cells #[.int .i64 key] 3)).alloc (.cells #[.int .i64 key] 3)).alloc (.cells #[.slice (some ⟨w.heap.size, 0, none⟩) 1 1, .slice a n c, .slice (some ⟨w.heap.size + 1, 0, none⟩) 1 1] 55)) (w.heap.size + 2) 0 [[key], zs, [key]] := by
    refine ⟨by simp, fun j hj => ?_⟩
    match j, hj with
    | 0, _ => exact ⟨_, 1, 1, World.cell?_alloc_at _ _ _ _ (by simp), (fun h => by cases h), ((has_new .i64 w _ key).alloc _).alloc _⟩
    | 1, _ => exact ⟨a, n, c, World.cell?_alloc_at _ _ _ _ (by simp), HC.out, ((h.alloc _).alloc _).alloc _⟩
    | 2, _ =>
      have h3 := has_new .i64 (w.alloc (.cells #[.int .i64 key] 3)) 3 key
      exact ⟨_, 1, 1, World.cell?_alloc_at _ _ _ _ (by simp), (fun h => by cases h), (by simpa using h3.alloc _)⟩
  have hfl : ([[key], zs, [key]] : List (List Int)).flatten = [key] ++ zs ++ [key] := by simp
  have hfn : ([[key], zs, [key]] : List (List Int)).flatten.length = n + 2 := by have := HL.out; rw [hfl]; simp; omega
  refine (concatInts _ 0 3 _ _ hp (by simp) (by omega) (by omega)).mono ?_
  rw [hfn, hfl]
  rintro e w1 ⟨v, rfl, hown, hb1⟩
  obtain ⟨A, cc, rfl, _⟩ := ownsRow_slice hown
  have ho := ownsRow_own hown
  clear hown hfl hfn hp
  go_wp2_with fail
  refine (implDigest _ _ _ _ _ _ ho.has HF.out (by omega)).mono ?_
  rintro e w' ⟨rfl, rfl⟩
  go_wp2_with fail
  go_ret
  refine ⟨ret_int (by rw [macV, HL.out]), ?_⟩
  exact (((b1.alloc (by simp; omega) _).trans (hb1.mono (by simp; omega))))

set_option maxRecDepth 100000 in
set_option maxHeartbeats 1600000 in
theorem specMAC (key : Int) (a : Option Addr) (n c : Nat) (zs : List Int) (w : World) (hk : (Lit.int .i64 key).wf = true) (h : Has .i64 w w.heap.size a n zs) (hc0 : a = none → c = 0) (hf : ∀ z ∈ zs, (Lit.int .i64 z).wf = true) (hn : n ≤ 1048600) :
    Calls Try.prog 59 #[.int .i64 key, .slice a n c] w fun e w' => e = .returned (.int .i64 (macV key zs)) ∧ Below w.heap.size w w' := by
  have hl := h.1
  have HF := Lib.hid (mac_fits hk hf)
  have HC := Lib.hid hc0
  have HL := Lib.hid hl
  clear hf hc0 hl
  obtain ⟨i0, hi, hz0, hz1, hz2⟩ := info_parts infoI64
  have ha := h.alloc (.cells #[.int .i64 key] 3)
  have ho := own_lit w 3 [.int .i64 key] (by simp)
  have hb : Below w.heap.size w (w.alloc (.cells #[.int .i64 key] 3)) := (Below.refl _ _).alloc (Nat.le_refl _) _
  go_enter Try.func59, Try.ntmps59
  go_wp2_with (first | (at_builtin; refine wpList_app rfl (.tmp 6) (.tmp 7) 55 rfl w.heap.size 3 i0 Try.underlying55 hi hz0 hz1 (by rw [hz2]; decide) _ [key] 1 rfl ho a n c zs rfl HC.out ha (by omega) hb.size ?_; intro v1 w1 ho1 hg1 _; have hb1 := hb.grown hg1 hb.size (fun g hg => by cases hg; exact Nat.le_refl _); have hs1 := hb1.size; have hn1 := has_new .i64 w1 3 key; have hb2 := hb1.alloc hs1 (.cells #[.int .i64 key] 3); have ho1' := ho1.alloc (.cells #[.int .i64 key] 3)) | (at_builtin; refine wpList_app rfl (.tmp 8) (.tmp 10) 55 rfl w.heap.size 3 i0 Try.underlying55 hi hz0 hz1 (by rw [hz2]; decide) _ ([key] ++ zs) (1 + n) rfl ho1' _ 1 1 [key] rfl (fun h => by cases h) hn1 (by omega) hb2.size ?_; intro v2 w2 ho2 hg2 _))
  have hb3 := hb2.grown hg2 hb2.size (fun g hg => (ho1.lt g hg).1)
  obtain ⟨A, cc, rfl, _⟩ := ownsRow_slice ho2
  have hq := ownsRow_own ho2
  clear ho2 ho1 ho
  go_wp2_with fail
  refine (specDigest _ _ _ _ _ _ hq.has HF.out (by omega)).mono ?_
  rintro e w' ⟨rfl, rfl⟩
  go_wp2_with fail
  go_ret
  exact ⟨ret_int (by rw [macV, HL.out]; congr 1; omega), hb3⟩
end Go.Proofs.Ytoicmmandniagaa
