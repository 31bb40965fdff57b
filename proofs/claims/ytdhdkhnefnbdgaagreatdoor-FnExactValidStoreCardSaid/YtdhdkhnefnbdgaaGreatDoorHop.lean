
/- The MAC, by the program and by the model. -/
import Derived.Test.YtdhdkhnefnbdgaaGreatDoorDig
import Derived.Handy
namespace Go.Proofs.YtdhdkhnefnbdgaaGreatDoor
open Go.ChangeShapes Go.WideShapes Go.ChangeAt Go.RowKit
set_option linter.unusedVariables false
def macV (key : Int) (zs : List Int) : Int := digN (key :: (zs ++ [key])) (zs.length + 2)

theorem mac_fits {key : Int} {zs : List Int} (hk : (Lit.int .i64 key).wf = true) (h : ∀ z ∈ zs, (Lit.int .i64 z).wf = true) : ∀ z ∈ [key] ++ zs ++ [key], (Lit.int .i64 z).wf = true := by
  intro z hz
  simp only [List.mem_append, List.mem_singleton] at hz
  rcases hz with (rfl | hz) | rfl
  · exact hk
  · exact h z hz
  · exact hk

set_option maxRecDepth 100000 in
set_option maxHeartbeats 1600000 in
theorem implMAC (key : Int) (a : Option Addr) (n c : Nat) (zs : List Int) (w : World) (hk : (Lit.int .i64 key).wf = true) (h : Has .i64 w w.heap.size a n zs) (hc0 : a = none → c = 0) (hf : ∀ z ∈ zs, (Lit.int .i64 z).wf = true) (hn : n ≤ 1048600) :
    Calls Tryz.prog 115 #[.int .i64 key, .slice a n c] w fun e w' => e = .returned (.int .i64 (macV key zs)) ∧ Below w.heap.size w w' := by
  have hl := h.1
  have HF := Lib.hid (mac_fits hk hf)
  have HC := Lib.hid hc0
  have HL := Lib.hid hl
  clear hf hc0 hl
  go_enter Tryz.func115, Tryz.ntmps115
  go_wp2_with fail
  have b1 : Below w.heap.size w ((w.alloc (.cells #[.int .i64 key] 3)).alloc (.cells #[.int .i64 key] 3)) := ((Below.refl _ _).alloc (Nat.le_refl _) _).alloc (by simp) _
  have hp : Parts (((w.alloc (.cells #[.int .i64 key] 3)).alloc (.cells #[.int .i64 key] 3)).alloc (.cells #[.slice (some ⟨w.heap.size, 0, none⟩) 1 1, .slice a n c, .slice (some ⟨w.heap.size + 1, 0, none⟩) 1 1] 58)) (w.heap.size + 2) 0 [[key], zs, [key]] := by
    refine ⟨by simp, fun j hj => ?_⟩
    match j, hj with
    | 0, _ => exact ⟨_, 1, 1, World.cell?_alloc_at _ _ _ _ (by simp), (fun h => by cases h), ((has_new .i64 w _ key).alloc _).alloc _⟩
    | 1, _ => exact ⟨a, n, c, World.cell?_alloc_at _ _ _ _ (by simp), HC.out, ((h.alloc _).alloc _).alloc _⟩
    | 2, _ =>
      have h3 := has_new .i64 (w.alloc (.cells #[.int .i64 key] 3)) 3 key
      exact ⟨_, 1, 1, World.cell?_alloc_at _ _ _ _ (by simp), (fun h => by cases h), (by simpa using h3.alloc _)⟩
  have hfl : ([[key], zs, [key]] : List (List Int)).flatten = [key] ++ zs ++ [key] := by simp
  have hfn : ([[key], zs, [key]] : List (List Int)).flatten.length = n + 2 := by have := HL.out; rw [hfl]; simp; omega
  refine (concatInts _ 0 3 _ _ hp (by simp) (by omega) (by omega)).mono ?_
  rw [hfn, hfl]
  rintro e w1 ⟨v, rfl, hown, hb1⟩
  obtain ⟨A, cc, rfl, _⟩ := ownsRow_slice hown
  have ho := ownsRow_own hown
  clear hown hfl hfn hp
  go_wp2_with fail
  refine (implDigest _ _ _ _ _ _ ho.has HF.out (by omega)).mono ?_
  rintro e w' ⟨rfl, rfl⟩
  go_wp2_with fail
  go_ret
  refine ⟨ret_int (by rw [macV, HL.out]), ?_⟩
  exact (((b1.alloc (by simp; omega) _).trans (hb1.mono (by simp; omega))))

set_option maxRecDepth 100000 in
set_option maxHeartbeats 1600000 in
theorem specMAC (key : Int) (a : Option Addr) (n c : Nat) (zs : List Int) (w : World) (hk : (Lit.int .i64 key).wf = true) (h : Has .i64 w w.heap.size a n zs) (hc0 : a = none → c = 0) (hf : ∀ z ∈ zs, (Lit.int .i64 z).wf = true) (hn : n ≤ 1048600) :
    Calls Tryz.prog 103 #[.int .i64 key, .slice a n c] w fun e w' => e = .returned (.int .i64 (macV key zs)) ∧ Below w.heap.size w w' := by
  have hl := h.1
  have HF := Lib.hid (mac_fits hk hf)
  have HC := Lib.hid hc0
  have HL := Lib.hid hl
  clear hf hc0 hl
  obtain ⟨i0, hi, hz0, hz1, hz2⟩ := info_parts infoI64
  have ha := h.alloc (.cells #[.int .i64 key] 3)
  have ho := own_lit w 3 [.int .i64 key] (by simp)
  have hb : Below w.heap.size w (w.alloc (.cells #[.int .i64 key] 3)) := (Below.refl _ _).alloc (Nat.le_refl _) _
  go_enter Tryz.func103, Tryz.ntmps103
  go_wp2_with (first | (at_builtin; refine wpList_app rfl (.tmp 6) (.tmp 7) 58 rfl w.heap.size 3 i0 Tryz.underlying58 hi hz0 hz1 (by rw [hz2]; decide) _ [key] 1 rfl ho a n c zs rfl HC.out ha (by omega) hb.size ?_; intro v1 w1 ho1 hg1 _; have hb1 := hb.grown hg1 hb.size (fun g hg => by cases hg; exact Nat.le_refl _); have hs1 := hb1.size; have hn1 := has_new .i64 w1 3 key; have hb2 := hb1.alloc hs1 (.cells #[.int .i64 key] 3); have ho1' := ho1.alloc (.cells #[.int .i64 key] 3)) | (at_builtin; refine wpList_app rfl (.tmp 8) (.tmp 10) 58 rfl w.heap.size 3 i0 Tryz.underlying58 hi hz0 hz1 (by rw [hz2]; decide) _ ([key] ++ zs) (1 + n) rfl ho1' _ 1 1 [key] rfl (fun h => by cases h) hn1 (by omega) hb2.size ?_; intro v2 w2 ho2 hg2 _))
  have hb3 := hb2.grown hg2 hb2.size (fun g hg => (ho1.lt g hg).1)
  obtain ⟨A, cc, rfl, _⟩ := ownsRow_slice ho2
  have hq := ownsRow_own ho2
  clear ho2 ho1 ho
  go_wp2_with fail
  refine (specDigest _ _ _ _ _ _ hq.has HF.out (by omega)).mono ?_
  rintro e w' ⟨rfl, rfl⟩
  go_wp2_with fail
  go_ret
  exact ⟨ret_int (by rw [macV, HL.out]; congr 1; omega), hb3⟩
end Go.Proofs.YtdhdkhnefnbdgaaGreatDoor
namespace Go.Proofs.YtdhdkhnefnbdgaaGreatDoor
open Go.ChangeShapes Go.WideShapes Go.ChangeAt Go.RowKit
set_option linter.unusedVariables false
def hopA (a i e x m : Int) : Value := .agg #[.int .i64 a, .int .i64 i, .int .i64 e, .int .i64 x, .int .i64 m]

set_option maxRecDepth 100000 in
set_option maxHeartbeats 800000 in
theorem toHop (a i e x m : Int) (w : World) :
    Calls Tryz.prog 54 #[.agg #[.int .i64 a, .int .i64 i, .int .i64 e, .int .i64 x, .int .i64 m]] w fun en w' => en = .returned (.agg #[.int .i64 a, .int .i64 i, .int .i64 e, .int .i64 x, .int .i64 m]) ∧ Below w.heap.size w w' := by
  go_enter Tryz.func54, Tryz.ntmps54
  go_wp2
  refine bodyPost_ret (v := .agg #[.int .i64 a, .int .i64 i, .int .i64 e, .int .i64 x, .int .i64 m]) (by simp [results, Tryz.results54, go_sem]) rfl ⟨rfl, ?_⟩
  go_grown

/-- Old cells behind a call, as rules for the walk. -/
theorem kept_cells {W w1 : World} (hb : Below W.heap.size W w1) : (∀ b o, b < W.heap.size → w1.cell? ⟨b, o, none⟩ = W.cell? ⟨b, o, none⟩) ∧ (∀ b o, b < W.heap.size → w1.frozen? ⟨b, o, none⟩ = W.frozen? ⟨b, o, none⟩) :=
  ⟨fun b o h => hb.cell (p := ⟨b, o, none⟩) h, fun b o h => hb.frozen (p := ⟨b, o, none⟩) h⟩
def hopL (t b a i e x : Int) : List Int := [t, b, a, i, e, x]
theorem hop_fits {t b a i e x : Int} (ht : (Lit.int .i64 t).wf = true) (hb : (Lit.int .i64 b).wf = true) (ha : (Lit.int .i64 a).wf = true) (hi : (Lit.int .i64 i).wf = true) (he : (Lit.int .i64 e).wf = true) (hx : (Lit.int .i64 x).wf = true) : ∀ z ∈ hopL t b a i e x, (Lit.int .i64 z).wf = true := by
  intro z hz
  simp only [hopL, List.mem_cons, List.not_mem_nil, or_false] at hz
  rcases hz with rfl | rfl | rfl | rfl | rfl | rfl <;> assumption
theorem has_lit (w : World) (e : TypeId) (zs : List Int) (n : Nat) (hn : n = zs.length) : Has .i64 (w.alloc (.cells (zs.map (Value.int .i64)).toArray e)) (w.alloc (.cells (zs.map (Value.int .i64)).toArray e)).heap.size (some ⟨w.heap.size, 0, none⟩) n zs := by
  subst hn
  refine ⟨rfl, fun _ => ⟨_, 0, rfl, by simp, fun i hi => ?_⟩⟩
  rw [World.cell?_alloc_at _ _ _ _ rfl]
  simp [List.getD_eq_getElem?_getD, hi]

set_option maxRecDepth 100000 in
set_option maxHeartbeats 1600000 in
theorem specHopMAC (k t b a i e x m : Int) (w : World) (hk : (Lit.int .i64 k).wf = true) (hf : ∀ z ∈ hopL t b a i e x, (Lit.int .i64 z).wf = true) :
    Calls Tryz.prog 90 #[.int .i64 k, .int .i64 t, .int .i64 b, .agg #[.int .i64 a, .int .i64 i, .int .i64 e, .int .i64 x, .int .i64 m]] w fun en w' => en = .returned (.int .i64 (macV k (hopL t b a i e x))) ∧ Below w.heap.size w w' := by
  have HF := Lib.hid hf
  clear hf
  have hh : Has .i64 ((w.alloc (.cells #[.int .i64 a, .int .i64 i, .int .i64 e, .int .i64 x, .int .i64 m] 61)).alloc (.cells #[.int .i64 t, .int .i64 b, .int .i64 a, .int .i64 i, .int .i64 e, .int .i64 x] 3)) ((w.alloc (.cells #[.int .i64 a, .int .i64 i, .int .i64 e, .int .i64 x, .int .i64 m] 61)).alloc (.cells #[.int .i64 t, .int .i64 b, .int .i64 a, .int .i64 i, .int .i64 e, .int .i64 x] 3)).heap.size (some ⟨w.heap.size + 1, 0, none⟩) 6 (hopL t b a i e x) := by
    have h := has_lit (w.alloc (.cells #[.int .i64 a, .int .i64 i, .int .i64 e, .int .i64 x, .int .i64 m] 61)) 3 (hopL t b a i e x) 6 rfl
    rw [World.size_alloc w] at h
    exact h
  go_enter Tryz.func90, Tryz.ntmps90
  go_wp2_with fail
  refine (specMAC k (some ⟨w.heap.size + 1, 0, none⟩) 6 6 (hopL t b a i e x) _ hk hh (fun h => by cases h) HF.out (by omega)).mono ?_
  rintro en w1 ⟨rfl, hb1⟩
  go_wp2_with fail
  go_ret
  exact ⟨rfl, (((Below.refl _ _).alloc (Nat.le_refl _) _).alloc (by simp) _).trans (hb1.mono (by simp; omega))⟩

set_option maxRecDepth 100000 in
set_option maxHeartbeats 1600000 in
theorem hopStatement (a i e x m : Int) (w : World) :
    Calls Tryz.prog 116 #[.agg #[.int .i64 a, .int .i64 i, .int .i64 e, .int .i64 x, .int .i64 m]] w fun en w' => en = .returned (.slice (some ⟨w.heap.size + 1, 0, none⟩) 4 4) ∧ Own .i64 w' w.heap.size (some ⟨w.heap.size + 1, 0, none⟩) 4 [a, i, e, x] ∧ Below w.heap.size w w' := by
  go_enter Tryz.func116, Tryz.ntmps116
  go_wp2
  go_ret
  refine ⟨rfl, ?_, ((Below.refl _ _).alloc (Nat.le_refl _) _).alloc (by simp) _⟩
  have h := ownsRow_own (k := .i64) (zs := [a, i, e, x]) (c := 4) (own_lit (w.alloc (.cells #[.int .i64 a, .int .i64 i, .int .i64 e, .int .i64 x, .int .i64 m] 61)) 3 [.int .i64 a, .int .i64 i, .int .i64 e, .int .i64 x] (by simp))
  simpa using h.low (lo' := w.heap.size) (by simp)

set_option maxRecDepth 100000 in
set_option maxHeartbeats 1600000 in
theorem hopMac (k t b a i e x m : Int) (w : World) (hk : (Lit.int .i64 k).wf = true) (hf : ∀ z ∈ hopL t b a i e x, (Lit.int .i64 z).wf = true) :
    Calls Tryz.prog 114 #[.agg #[.int .i64 a, .int .i64 i, .int .i64 e, .int .i64 x, .int .i64 m], .int .i64 k, .int .i64 t, .int .i64 b] w fun en w' => en = .returned (.int .i64 (macV k (hopL t b a i e x))) ∧ Below w.heap.size w w' := by
  have HF := Lib.hid hf
  clear hf
  obtain ⟨i0, hi, hz0, hz1, hz2⟩ := info_parts infoI64
  have hby : i0.bytes ≤ 8 := by rw [hz2]; decide
  have ho : (((w.alloc (.cells #[.int .i64 a, .int .i64 i, .int .i64 e, .int .i64 x, .int .i64 m] 61)).alloc (.cells #[.int .i64 t, .int .i64 b] 3))).ownsRow w.heap.size 3 1 (.slice (some ⟨w.heap.size + 1, 0, none⟩) 2 2) 2 ([t, b].map (.int .i64)) := by
    have h := own_lit (w.alloc (.cells #[.int .i64 a, .int .i64 i, .int .i64 e, .int .i64 x, .int .i64 m] 61)) 3 [.int .i64 t, .int .i64 b] (by simp)
    rw [World.size_alloc w] at h
    exact own_low h (by omega)
  have hb0 : Below w.heap.size w ((w.alloc (.cells #[.int .i64 a, .int .i64 i, .int .i64 e, .int .i64 x, .int .i64 m] 61)).alloc (.cells #[.int .i64 t, .int .i64 b] 3)) := ((Below.refl _ _).alloc (Nat.le_refl _) _).alloc (by simp) _
  go_enter Tryz.func114, Tryz.ntmps114
  go_wp2_with fail
  refine (hopStatement a i e x m _).mono ?_
  rintro en w1 ⟨rfl, hs, hb1⟩
  have ho1 : w1.ownsRow w.heap.size 3 1 (.slice (some ⟨w.heap.size + 1, 0, none⟩) 2 2) 2 ([t, b].map (.int .i64)) := ho.kept (row := none) ⟨hb1.os, hb1.tape, hb1.output, hb1.size, fun g hg _ => hb1.block g hg⟩ (.inr (by simp [Value.ownBlock]))
  have hB1 := hb0.trans (hb1.mono hb0.size)
  have hlo := hB1.size
  have hh := hs.has
  simp only [World.size_alloc] at hh
  have hbnd : 2 + 4 ≤ 1073741824 := by decide
  clear hs hb1 ho
  go_wp2_with (at_builtin; refine wpList_app rfl (.tmp 12) (.tmp 14) 58 rfl w.heap.size 3 i0 Tryz.underlying58 hi hz0 hz1 hby _ [t, b] 2 rfl ho1 _ 4 4 [a, i, e, x] rfl (fun h => by cases h) hh hbnd hlo ?_; intro v2 w2 ho2 hg2 _)
  have hB2 := hB1.grown hg2 hlo (fun g hg => (ho1.lt g hg).1)
  obtain ⟨A2, c2, rfl, hc2⟩ := ownsRow_slice ho2
  have hq := (ownsRow_own ho2).has
  have HC := Lib.hid hc2
  clear ho2 hc2
  go_wp2_with fail
  refine (implMAC k A2 6 c2 (hopL t b a i e x) _ hk hq HC.out HF.out (by omega)).mono ?_
  rintro en w3 ⟨rfl, hb3⟩
  go_wp2_with fail
  go_ret
  exact ⟨rfl, hB2.trans (hb3.mono hB2.size)⟩

set_option maxRecDepth 100000 in
set_option maxHeartbeats 1600000 in
theorem implHopMAC (k t b a i e x m : Int) (w : World) (hk : (Lit.int .i64 k).wf = true) (hf : ∀ z ∈ hopL t b a i e x, (Lit.int .i64 z).wf = true) :
    Calls Tryz.prog 111 #[.int .i64 k, .int .i64 t, .int .i64 b, .agg #[.int .i64 a, .int .i64 i, .int .i64 e, .int .i64 x, .int .i64 m]] w fun en w' => en = .returned (.int .i64 (macV k (hopL t b a i e x))) ∧ Below w.heap.size w w' := by
  have HF := Lib.hid hf
  clear hf
  go_enter Tryz.func111, Tryz.ntmps111
  go_wp2_with fail
  refine (hopMac k t b a i e x m _ hk HF.out).mono ?_
  rintro en w1 ⟨rfl, hb1⟩
  go_wp2_with fail
  go_ret
  exact ⟨rfl, ((Below.refl _ _).alloc (Nat.le_refl _) _).trans (hb1.mono (by simp))⟩

set_option maxRecDepth 100000 in
theorem eqHopSame (a i e x m : Int) (w : World) :
    Calls Tryz.prog 68 #[.agg #[.int .i64 a, .int .i64 i, .int .i64 e, .int .i64 x, .int .i64 m], .agg #[.int .i64 a, .int .i64 i, .int .i64 e, .int .i64 x, .int .i64 m]] w fun en w' => en = .returned (.bool true) ∧ Below w.heap.size w w' := by
  go_enter Tryz.func68, Tryz.ntmps68
  go_wp2
  go_ret
  exact ⟨rfl, by go_grown⟩
end Go.Proofs.YtdhdkhnefnbdgaaGreatDoor
