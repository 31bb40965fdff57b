
/- Hop fields by value: the laws' copy, and the MAC of a hop, by the program and by the model. -/
import Derived.Test.YtefjbnbibmiccaaGreatDoorMac
import Derived.Handy
namespace Go.Proofs.YtefjbnbibmiccaaGreatDoor
open Go.ChangeShapes Go.WideShapes Go.ChangeAt Go.RowKit
set_option linter.unusedVariables false
def hopA (a i e x m : Int) : Value := .agg #[.int .i64 a, .int .i64 i, .int .i64 e, .int .i64 x, .int .i64 m]

set_option maxRecDepth 100000 in
set_option maxHeartbeats 800000 in
theorem toHop (a i e x m : Int) (w : World) :
    Calls Tryz.prog 59 #[.agg #[.int .i64 a, .int .i64 i, .int .i64 e, .int .i64 x, .int .i64 m]] w fun en w' => en = .returned (.agg #[.int .i64 a, .int .i64 i, .int .i64 e, .int .i64 x, .int .i64 m]) ∧ Below w.heap.size w w' := by
  go_enter Tryz.func59, Tryz.ntmps59
  go_wp2
  refine bodyPost_ret (v := .agg #[.int .i64 a, .int .i64 i, .int .i64 e, .int .i64 x, .int .i64 m]) (by simp [results, Tryz.results59, go_sem]) rfl ⟨rfl, ?_⟩
  go_grown

/-- Old cells behind a call, as rules for the walk. -/
theorem kept_cells {W w1 : World} (hb : Below W.heap.size W w1) : (∀ b o, b < W.heap.size → w1.cell? ⟨b, o, none⟩ = W.cell? ⟨b, o, none⟩) ∧ (∀ b o, b < W.heap.size → w1.frozen? ⟨b, o, none⟩ = W.frozen? ⟨b, o, none⟩) :=
  ⟨fun b o h => hb.cell (p := ⟨b, o, none⟩) h, fun b o h => hb.frozen (p := ⟨b, o, none⟩) h⟩
def hopL (t b a i e x : Int) : List Int := [t, b, a, i, e, x]
theorem hop_fits {t b a i e x : Int} (ht : (Lit.int .i64 t).wf = true) (hb : (Lit.int .i64 b).wf = true) (ha : (Lit.int .i64 a).wf = true) (hi : (Lit.int .i64 i).wf = true) (he : (Lit.int .i64 e).wf = true) (hx : (Lit.int .i64 x).wf = true) : ∀ z ∈ hopL t b a i e x, (Lit.int .i64 z).wf = true := by
  intro z hz
  simp only [hopL, List.mem_cons, List.not_mem_nil, or_false] at hz
  rcases hz with rfl | rfl | rfl | rfl | rfl | rfl <;> assumption
theorem has_lit (w : World) (e : TypeId) (zs : List Int) (n : Nat) (hn : n = zs.length) : Has .i64 (w.alloc (.cells (zs.map (Value.int .i64)).toArray e)) (w.alloc (.cells (zs.map (Value.int .i64)).toArray e)).heap.size (some ⟨w.heap.size, 0, none⟩) n zs := by
  subst hn
  refine ⟨rfl, fun _ => ⟨_, 0, rfl, by simp, fun i hi => ?_⟩⟩
  rw [World.cell?_alloc_at _ _ _ _ rfl]
  simp [List.getD_eq_getElem?_getD, hi]

set_option maxRecDepth 100000 in
set_option maxHeartbeats 1600000 in
theorem specHopMAC (k t b a i e x m : Int) (w : World) (hk : (Lit.int .i64 k).wf = true) (hf : ∀ z ∈ hopL t b a i e x, (Lit.int .i64 z).wf = true) :
    Calls Tryz.prog 82 #[.int .i64 k, .int .i64 t, .int .i64 b, .agg #[.int .i64 a, .int .i64 i, .int .i64 e, .int .i64 x, .int .i64 m]] w fun en w' => en = .returned (.int .i64 (macV k (hopL t b a i e x))) ∧ Below w.heap.size w w' := by
  have HF := Lib.hid hf
  clear hf
  have hh : Has .i64 ((w.alloc (.cells #[.int .i64 a, .int .i64 i, .int .i64 e, .int .i64 x, .int .i64 m] 67)).alloc (.cells #[.int .i64 t, .int .i64 b, .int .i64 a, .int .i64 i, .int .i64 e, .int .i64 x] 3)) ((w.alloc (.cells #[.int .i64 a, .int .i64 i, .int .i64 e, .int .i64 x, .int .i64 m] 67)).alloc (.cells #[.int .i64 t, .int .i64 b, .int .i64 a, .int .i64 i, .int .i64 e, .int .i64 x] 3)).heap.size (some ⟨w.heap.size + 1, 0, none⟩) 6 (hopL t b a i e x) := by
    have h := has_lit (w.alloc (.cells #[.int .i64 a, .int .i64 i, .int .i64 e, .int .i64 x, .int .i64 m] 67)) 3 (hopL t b a i e x) 6 rfl
    rw [World.size_alloc w] at h
    exact h
  go_enter Tryz.func82, Tryz.ntmps82
  go_wp2_with fail
  refine (specMAC k (some ⟨w.heap.size + 1, 0, none⟩) 6 6 (hopL t b a i e x) _ hk hh (fun h => by cases h) HF.out (by omega)).mono ?_
  rintro en w1 ⟨rfl, hb1⟩
  go_wp2_with fail
  go_ret
  exact ⟨rfl, (((Below.refl _ _).alloc (Nat.le_refl _) _).alloc (by simp) _).trans (hb1.mono (by simp; omega))⟩

set_option maxRecDepth 100000 in
set_option maxHeartbeats 1600000 in
theorem hopStatement (a i e x m : Int) (w : World) :
    Calls Tryz.prog 109 #[.agg #[.int .i64 a, .int .i64 i, .int .i64 e, .int .i64 x, .int .i64 m]] w fun en w' => en = .returned (.slice (some ⟨w.heap.size + 1, 0, none⟩) 4 4) ∧ Own .i64 w' w.heap.size (some ⟨w.heap.size + 1, 0, none⟩) 4 [a, i, e, x] ∧ Below w.heap.size w w' := by
  go_enter Tryz.func109, Tryz.ntmps109
  go_wp2
  go_ret
  refine ⟨rfl, ?_, ((Below.refl _ _).alloc (Nat.le_refl _) _).alloc (by simp) _⟩
  have h := ownsRow_own (k := .i64) (zs := [a, i, e, x]) (c := 4) (own_lit (w.alloc (.cells #[.int .i64 a, .int .i64 i, .int .i64 e, .int .i64 x, .int .i64 m] 67)) 3 [.int .i64 a, .int .i64 i, .int .i64 e, .int .i64 x] (by simp))
  simpa using h.low (lo' := w.heap.size) (by simp)

set_option maxRecDepth 100000 in
set_option maxHeartbeats 1600000 in
theorem hopMac (k t b a i e x m : Int) (w : World) (hk : (Lit.int .i64 k).wf = true) (hf : ∀ z ∈ hopL t b a i e x, (Lit.int .i64 z).wf = true) :
    Calls Tryz.prog 107 #[.agg #[.int .i64 a, .int .i64 i, .int .i64 e, .int .i64 x, .int .i64 m], .int .i64 k, .int .i64 t, .int .i64 b] w fun en w' => en = .returned (.int .i64 (macV k (hopL t b a i e x))) ∧ Below w.heap.size w w' := by
  have HF := Lib.hid hf
  clear hf
  obtain ⟨i0, hi, hz0, hz1, hz2⟩ := info_parts infoI64
  have hby : i0.bytes ≤ 8 := by rw [hz2]; decide
  have ho : (((w.alloc (.cells #[.int .i64 a, .int .i64 i, .int .i64 e, .int .i64 x, .int .i64 m] 67)).alloc (.cells #[.int .i64 t, .int .i64 b] 3))).ownsRow w.heap.size 3 1 (.slice (some ⟨w.heap.size + 1, 0, none⟩) 2 2) 2 ([t, b].map (.int .i64)) := by
    have h := own_lit (w.alloc (.cells #[.int .i64 a, .int .i64 i, .int .i64 e, .int .i64 x, .int .i64 m] 67)) 3 [.int .i64 t, .int .i64 b] (by simp)
    rw [World.size_alloc w] at h
    exact own_low h (by omega)
  have hb0 : Below w.heap.size w ((w.alloc (.cells #[.int .i64 a, .int .i64 i, .int .i64 e, .int .i64 x, .int .i64 m] 67)).alloc (.cells #[.int .i64 t, .int .i64 b] 3)) := ((Below.refl _ _).alloc (Nat.le_refl _) _).alloc (by simp) _
  go_enter Tryz.func107, Tryz.ntmps107
  go_wp2_with fail
  refine (hopStatement a i e x m _).mono ?_
  rintro en w1 ⟨rfl, hs, hb1⟩
  have ho1 : w1.ownsRow w.heap.size 3 1 (.slice (some ⟨w.heap.size + 1, 0, none⟩) 2 2) 2 ([t, b].map (.int .i64)) := ho.kept (row := none) ⟨hb1.os, hb1.tape, hb1.output, hb1.size, fun g hg _ => hb1.block g hg⟩ (.inr (by simp [Value.ownBlock]))
  have hB1 := hb0.trans (hb1.mono hb0.size)
  have hlo := hB1.size
  have hh := hs.has
  simp only [World.size_alloc] at hh
  have hbnd : 2 + 4 ≤ 1073741824 := by decide
  clear hs hb1 ho
  go_wp2_with (at_builtin; refine wpList_app rfl (.tmp 12) (.tmp 14) 64 rfl w.heap.size 3 i0 Tryz.underlying64 hi hz0 hz1 hby _ [t, b] 2 rfl ho1 _ 4 4 [a, i, e, x] rfl (fun h => by cases h) hh hbnd hlo ?_; intro v2 w2 ho2 hg2 _)
  have hB2 := hB1.grown hg2 hlo (fun g hg => (ho1.lt g hg).1)
  obtain ⟨A2, c2, rfl, hc2⟩ := ownsRow_slice ho2
  have hq := (ownsRow_own ho2).has
  have HC := Lib.hid hc2
  clear ho2 hc2
  go_wp2_with fail
  refine (implMAC k A2 6 c2 (hopL t b a i e x) _ hk hq HC.out HF.out (by omega)).mono ?_
  rintro en w3 ⟨rfl, hb3⟩
  go_wp2_with fail
  go_ret
  exact ⟨rfl, hB2.trans (hb3.mono hB2.size)⟩

set_option maxRecDepth 100000 in
set_option maxHeartbeats 1600000 in
theorem implHopMAC (k t b a i e x m : Int) (w : World) (hk : (Lit.int .i64 k).wf = true) (hf : ∀ z ∈ hopL t b a i e x, (Lit.int .i64 z).wf = true) :
    Calls Tryz.prog 104 #[.int .i64 k, .int .i64 t, .int .i64 b, .agg #[.int .i64 a, .int .i64 i, .int .i64 e, .int .i64 x, .int .i64 m]] w fun en w' => en = .returned (.int .i64 (macV k (hopL t b a i e x))) ∧ Below w.heap.size w w' := by
  have HF := Lib.hid hf
  clear hf
  go_enter Tryz.func104, Tryz.ntmps104
  go_wp2_with fail
  refine (hopMac k t b a i e x m _ hk HF.out).mono ?_
  rintro en w1 ⟨rfl, hb1⟩
  go_wp2_with fail
  go_ret
  exact ⟨rfl, ((Below.refl _ _).alloc (Nat.le_refl _) _).trans (hb1.mono (by simp))⟩

set_option maxRecDepth 100000 in
theorem eqHopSame (a i e x m : Int) (w : World) :
    Calls Tryz.prog 73 #[.agg #[.int .i64 a, .int .i64 i, .int .i64 e, .int .i64 x, .int .i64 m], .agg #[.int .i64 a, .int .i64 i, .int .i64 e, .int .i64 x, .int .i64 m]] w fun en w' => en = .returned (.bool true) ∧ Below w.heap.size w w' := by
  go_enter Tryz.func73, Tryz.ntmps73
  go_wp2
  go_ret
  exact ⟨rfl, by go_grown⟩
end Go.Proofs.YtefjbnbibmiccaaGreatDoor
