
/- LinkIndex of both sides: the first link that uses an interface. -/
import Derived.Test.YtdhdkhnefnbdgaaGreatDoorCTopology
import Derived.Test.YtdhdkhnefnbdgaaGreatDoorRow
import Derived.Laws.StructEq
import Derived.Deep.RegionHeld3
import Derived.Deep.QuietTactic
import Derived.BigQuiet
namespace Go.Proofs.YtdhdkhnefnbdgaaGreatDoor
open Go.ChangeShapes Go.WideShapes Go.ChangeAt Go.RowKit
set_option linter.unusedVariables false
def TLink.uses (x : TLink) (r d : Int) : Bool := (decide (x.a = r) && decide (x.ai = d)) || (decide (x.b = r) && decide (x.bi = d))
/-- The first index from k on, within m, at which p holds; -1 if there is none. -/
def firstIx (p : Nat → Bool) : Nat → Nat → Int
  | _, 0 => -1
  | k, m + 1 => if p k then (k : Int) else firstIx p (k + 1) m
def lkIx (zs : List TLink) (r d : Int) (n : Nat) : Int := firstIx (fun k => (zs.getD k default).uses r d) 0 n

set_option maxRecDepth 100000 in
set_option maxHeartbeats 1600000 in
theorem specEnds (x : TLink) (r d : Int) (w : World) :
    Calls Tryz.prog 76 #[.agg #[.int .i64 x.a, .int .i64 x.ai, .int .i64 x.b, .int .i64 x.bi, .int .i64 x.kind], .int .i64 r, .int .i64 d] w fun e w' => e = .returned (.bool (x.uses r d)) ∧ Mk0 w w' := by
  by_cases h1 : x.a = r <;> by_cases h2 : x.ai = d <;> by_cases h3 : x.b = r <;> by_cases h4 : x.bi = d
  all_goals (
    have hu : x.uses r d = ((decide (x.a = r) && decide (x.ai = d)) || (decide (x.b = r) && decide (x.bi = d))) := rfl
    simp only [h1, h2, h3, h4, decide_true, decide_false, Bool.true_and, Bool.false_and, Bool.and_false, Bool.or_false, Bool.or_true] at hu
    have HU := Lib.hid hu
    clear hu
    go_enter Tryz.func76, Tryz.ntmps76
    go_wp2
    go_ret
    exact ⟨by rw [HU.out]; first | rfl | (simp_all; done), Mk.of_below (by go_grown)⟩)

theorem firstIx_hit {p : Nat → Bool} {k n : Nat} (hk : k < n) (hp : p k = true) : firstIx p k (n - k) = (k : Int) := by
  obtain ⟨m, hm⟩ : ∃ m, n - k = m + 1 := ⟨n - k - 1, by omega⟩
  rw [hm, firstIx, if_pos hp]
theorem firstIx_miss {p : Nat → Bool} {k n : Nat} (hk : k < n) (hp : p k = false) : firstIx p k (n - k) = firstIx p (k + 1) (n - (k + 1)) := by
  obtain ⟨m, hm⟩ : ∃ m, n - k = m + 1 := ⟨n - k - 1, by omega⟩
  rw [hm, firstIx, if_neg (by simp [hp]), show n - (k + 1) = m by omega]
theorem firstIx_end (p : Nat → Bool) (k : Nat) : firstIx p k (k - k) = -1 := by rw [Nat.sub_self, firstIx]
theorem firstIx_range (p : Nat → Bool) : ∀ m k : Nat, (firstIx p k m = -1 ∨ ∃ q : Nat, firstIx p k m = (q : Int) ∧ k ≤ q ∧ q < k + m)
  | 0, _ => .inl rfl
  | m + 1, k => by
    rw [firstIx]
    by_cases hp : p k = true
    · rw [if_pos hp]
      exact .inr ⟨k, rfl, by omega, by omega⟩
    · rw [if_neg hp]
      rcases firstIx_range p m (k + 1) with h | ⟨q, h1, h2, h3⟩
      · exact .inl h
      · exact .inr ⟨q, h1, by omega, by omega⟩

set_option maxRecDepth 100000 in
set_option maxHeartbeats 1600000 in
theorem specLinkIx (a0 a1 : Option Addr) (n0 c0 n1 c1 B : Nat) (zs : List TLink) (r d : Int) (w : World) (h : HasLink w B a1 n1 zs) (hB : B ≤ w.heap.size) (hn : n1 ≤ 1048576) :
    Calls Tryz.prog 51 #[.agg #[.slice a0 n0 c0, .slice a1 n1 c1], .int .i64 r, .int .i64 d] w fun e w' => e = .returned (.int .i64 (lkIx zs r d n1)) ∧ Mk0 w w' := by
  go_enter Tryz.func51, Tryz.ntmps51
  go_wp2_with fail
  have M0 := Mk.alloc w (Obj.cells #[Value.slice a0 n0 c0, Value.slice a1 n1 c1] 35)
  go_loopw [6, 7] (fun q i wr => q = .int .i64 0 ∧ ∃ k : Nat, k ≤ n1 ∧ i = .int .i64 k ∧ Hid (lkIx zs r d n1 = firstIx (fun k => (zs.getD k default).uses r d) k (n1 - k)) ∧ Mk0 (w.alloc (Obj.cells #[Value.slice a0 n0 c0, Value.slice a1 n1 c1] 35)) wr) (fun _ i _ => n1 - (intOf i).toNat)
  case atStart => exact ⟨rfl, 0, Nat.zero_le _, rfl, rfl, Mk.refl _ _ _⟩
  case round =>
    obtain ⟨rfl, k, hk, rfl, hR, hM⟩ := hrel
    obtain ⟨q1, r1⟩ := hM.kept
    have hM' := M0.trans hM
    by_cases hlt : k < n1
    · obtain ⟨b, off, x, rfl, hb, hx, d0, d1, d2, d3, d4⟩ := HasLink.at _ _ _ _ _ _ (h.mk hM' hB (.inr (Nat.le_refl _))) hlt
      go_wp2_with fail
      refine (specEnds x r d _).mono ?_
      rintro e w2 ⟨rfl, m2⟩
      clear d0 d1 d2 d3 d4 q1 r1
      cases hu : x.uses r d
      · go_wp2_with fail
        go_roundw
        case rel => exact ⟨rfl, k + 1, by omega, by go_num, hR.out.trans (firstIx_miss hlt (by rw [← hx.out]; exact hu)), hM.trans m2⟩
        case measure => simp [intOf]; omega
      · go_wp2_with fail
        go_ret
        exact ⟨retI (hR.out.trans (firstIx_hit hlt (by rw [← hx.out]; exact hu))).symm, hM'.trans m2⟩
    · obtain rfl : k = n1 := by omega
      go_wp2_with fail
      go_ret
      exact ⟨retI (hR.out.trans (firstIx_end _ _)).symm, hM'⟩

end Go.Proofs.YtdhdkhnefnbdgaaGreatDoor
namespace Go.Proofs.YtdhdkhnefnbdgaaGreatDoor
open Go.ChangeShapes Go.WideShapes Go.ChangeAt Go.RowKit
set_option linter.unusedVariables false
set_option maxRecDepth 100000 in
set_option maxHeartbeats 800000 in
theorem portA (a ai b bi k : Int) (w : World) : Calls Tryz.prog 62 #[.agg #[.int .i64 a, .int .i64 ai, .int .i64 b, .int .i64 bi, .int .i64 k]] w fun e w' => e = .returned (.agg #[.int .i64 a, .int .i64 ai]) ∧ Mk0 w w' := by
  go_enter Tryz.func62, Tryz.ntmps62
  go_wp2
  refine bodyPost_ret (v := .agg #[.int .i64 a, .int .i64 ai]) (by simp [results, Tryz.results62, go_sem]) rfl ⟨rfl, Mk.of_below ?_⟩
  go_grown
set_option maxRecDepth 100000 in
set_option maxHeartbeats 800000 in
theorem portB (a ai b bi k : Int) (w : World) : Calls Tryz.prog 63 #[.agg #[.int .i64 a, .int .i64 ai, .int .i64 b, .int .i64 bi, .int .i64 k]] w fun e w' => e = .returned (.agg #[.int .i64 b, .int .i64 bi]) ∧ Mk0 w w' := by
  go_enter Tryz.func63, Tryz.ntmps63
  go_wp2
  refine bodyPost_ret (v := .agg #[.int .i64 b, .int .i64 bi]) (by simp [results, Tryz.results63, go_sem]) rfl ⟨rfl, Mk.of_below ?_⟩
  go_grown

theorem port_keep {w wr W w2 : World} {x : TLink} {r d : Int} (m2 : Mk0 W w2) (hW : W.heap = (wr.alloc (Obj.cells #[Value.int .i64 x.a, Value.int .i64 x.ai, Value.int .i64 x.b, Value.int .i64 x.bi, Value.int .i64 x.kind] 88)).heap) (y1 : w.heap.size + 1 < wr.heap.size) (p0 : wr.cell? ⟨w.heap.size + 1, 0, none⟩ = some (.int .i64 r)) (p1 : wr.cell? ⟨w.heap.size + 1, 1, none⟩ = some (.int .i64 d)) :
    w2.cell? ⟨w.heap.size + 1, 0, none⟩ = some (.int .i64 r) ∧ w2.cell? ⟨w.heap.size + 1, 1, none⟩ = some (.int .i64 d) ∧ w2.cell? ⟨wr.heap.size, 0, none⟩ = some (.int .i64 x.a) ∧ w2.cell? ⟨wr.heap.size, 1, none⟩ = some (.int .i64 x.ai) ∧ w2.cell? ⟨wr.heap.size, 2, none⟩ = some (.int .i64 x.b) ∧ w2.cell? ⟨wr.heap.size, 3, none⟩ = some (.int .i64 x.bi) ∧ w2.cell? ⟨wr.heap.size, 4, none⟩ = some (.int .i64 x.kind) := by
  have hs : W.heap.size = wr.heap.size + 1 := by rw [hW]; simp
  have hc : ∀ b o, b < W.heap.size → w2.cell? ⟨b, o, none⟩ = (wr.alloc (Obj.cells #[Value.int .i64 x.a, Value.int .i64 x.ai, Value.int .i64 x.b, Value.int .i64 x.bi, Value.int .i64 x.kind] 88)).cell? ⟨b, o, none⟩ := fun b o hb => (m2.cell hb (.inr (Nat.zero_le _))).trans (World.cell?_of_block (by rw [hW]))
  refine ⟨?_, ?_, ?_, ?_, ?_, ?_, ?_⟩
  · rw [hc _ _ (by omega), World.cell?_alloc_past _ _ _ y1]; exact p0
  · rw [hc _ _ (by omega), World.cell?_alloc_past _ _ _ y1]; exact p1
  all_goals (rw [hc _ _ (by omega), World.cell?_alloc_at _ _ _ _ rfl]; rfl)
theorem port_keep2 {w W w3 : World} {r d : Int} {p : Nat} (m3 : Mk0 W w3) (P0 : W.cell? ⟨p, 0, none⟩ = some (.int .i64 r)) (P1 : W.cell? ⟨p, 1, none⟩ = some (.int .i64 d)) :
    w3.cell? ⟨p, 0, none⟩ = some (.int .i64 r) ∧ w3.cell? ⟨p, 1, none⟩ = some (.int .i64 d) :=
  ⟨(m3.cell (World.block_lt_of_cell? W _ P0) (.inr (Nat.zero_le _))).trans P0, (m3.cell (World.block_lt_of_cell? W _ P1) (.inr (Nat.zero_le _))).trans P1⟩
end Go.Proofs.YtdhdkhnefnbdgaaGreatDoor
namespace Go.Proofs.YtdhdkhnefnbdgaaGreatDoor
open Go.ChangeShapes Go.WideShapes Go.ChangeAt Go.RowKit
set_option linter.unusedVariables false
set_option maxRecDepth 100000 in
set_option maxHeartbeats 4000000 in
theorem implLinkIx (a0 a1 : Option Addr) (n0 c0 n1 c1 B : Nat) (zs : List TLink) (r d : Int) (w : World) (h : HasLink w B a1 n1 zs) (hB : B ≤ w.heap.size) (hn : n1 ≤ 1048576) :
    Calls Tryz.prog 61 #[.agg #[.slice a0 n0 c0, .slice a1 n1 c1], .int .i64 r, .int .i64 d] w fun e w' => e = .returned (.int .i64 (lkIx zs r d n1)) ∧ Mk0 w w' := by
  go_enter Tryz.func61, Tryz.ntmps61
  go_wp2_with fail
  have M0 := (Mk.alloc w (Obj.cells #[Value.slice a0 n0 c0, Value.slice a1 n1 c1] 35)).new (Obj.cells #[Value.int .i64 r, Value.int .i64 d] 98)
  go_loopw [6, 16] (fun q i wr => q = .int .i64 0 ∧ ∃ k : Nat, k ≤ n1 ∧ i = .int .i64 k ∧ Hid (lkIx zs r d n1 = firstIx (fun k => (zs.getD k default).uses r d) k (n1 - k)) ∧ Mk0 ((w.alloc (Obj.cells #[Value.slice a0 n0 c0, Value.slice a1 n1 c1] 35)).alloc (Obj.cells #[Value.int .i64 r, Value.int .i64 d] 98)) wr) (fun _ i _ => n1 - (intOf i).toNat)
  case atStart => exact ⟨rfl, 0, Nat.zero_le _, rfl, rfl, Mk.refl _ _ _⟩
  case round =>
    obtain ⟨rfl, k, hk, rfl, hR, hM⟩ := hrel
    obtain ⟨q1, r1⟩ := hM.kept
    have hM' := M0.trans hM
    have y0 : w.heap.size < wr.heap.size := by have := hM.size; simp at this; omega
    have y1 : w.heap.size + 1 < wr.heap.size := by have := hM.size; simp at this; omega
    by_cases hlt : k < n1
    · obtain ⟨b, off, x, rfl, hb, hx, d0, d1, d2, d3, d4⟩ := HasLink.at _ _ _ _ _ _ (h.mk hM' hB (.inr (Nat.le_refl _))) hlt
      have p0 : wr.cell? ⟨w.heap.size + 1, 0, none⟩ = some (.int .i64 r) := by rw [q1 _ _ (by simp)]; simp [go_sem]
      have p1 : wr.cell? ⟨w.heap.size + 1, 1, none⟩ = some (.int .i64 d) := by rw [q1 _ _ (by simp)]; simp [go_sem]
      have p2 : wr.cell? ⟨w.heap.size, 1, none⟩ = some (.slice (some ⟨b, off, none⟩) n1 c1) := by rw [q1 _ _ (by simp; omega)]; simp [go_sem]
      clear q1 r1
      have P0 := (Mk.alloc wr (Obj.cells #[Value.int .i64 x.a, Value.int .i64 x.ai, Value.int .i64 x.b, Value.int .i64 x.bi, Value.int .i64 x.kind] 88)).cellAt p0
      have P1 := (Mk.alloc wr (Obj.cells #[Value.int .i64 x.a, Value.int .i64 x.ai, Value.int .i64 x.b, Value.int .i64 x.bi, Value.int .i64 x.kind] 88)).cellAt p1
      have K0 : (wr.alloc (Obj.cells #[Value.int .i64 x.a, Value.int .i64 x.ai, Value.int .i64 x.b, Value.int .i64 x.bi, Value.int .i64 x.kind] 88)).cell? ⟨wr.heap.size, 0, none⟩ = some (.int .i64 x.a) := by rw [World.cell?_alloc_at _ _ _ _ rfl]; rfl
      have K1 : (wr.alloc (Obj.cells #[Value.int .i64 x.a, Value.int .i64 x.ai, Value.int .i64 x.b, Value.int .i64 x.bi, Value.int .i64 x.kind] 88)).cell? ⟨wr.heap.size, 1, none⟩ = some (.int .i64 x.ai) := by rw [World.cell?_alloc_at _ _ _ _ rfl]; rfl
      have K2 : (wr.alloc (Obj.cells #[Value.int .i64 x.a, Value.int .i64 x.ai, Value.int .i64 x.b, Value.int .i64 x.bi, Value.int .i64 x.kind] 88)).cell? ⟨wr.heap.size, 2, none⟩ = some (.int .i64 x.b) := by rw [World.cell?_alloc_at _ _ _ _ rfl]; rfl
      have K3 : (wr.alloc (Obj.cells #[Value.int .i64 x.a, Value.int .i64 x.ai, Value.int .i64 x.b, Value.int .i64 x.bi, Value.int .i64 x.kind] 88)).cell? ⟨wr.heap.size, 3, none⟩ = some (.int .i64 x.bi) := by rw [World.cell?_alloc_at _ _ _ _ rfl]; rfl
      have K4 : (wr.alloc (Obj.cells #[Value.int .i64 x.a, Value.int .i64 x.ai, Value.int .i64 x.b, Value.int .i64 x.bi, Value.int .i64 x.kind] 88)).cell? ⟨wr.heap.size, 4, none⟩ = some (.int .i64 x.kind) := by rw [World.cell?_alloc_at _ _ _ _ rfl]; rfl
      cases h1 : (x.a == r)
      · cases h3 : (x.b == r)
        · have hu : x.uses r d = false := by simp_all [TLink.uses]
          have HU := Lib.hid hu
          clear hu
          go_wp2_with fail
          go_region_held3 (fun w' => Mk0 (wr.alloc (Obj.cells #[Value.int .i64 x.a, Value.int .i64 x.ai, Value.int .i64 x.b, Value.int .i64 x.bi, Value.int .i64 x.kind] 88)) w' ∧ w'.cell? ⟨w.heap.size + 1, 0, none⟩ = some (.int .i64 r) ∧ w'.cell? ⟨w.heap.size + 1, 1, none⟩ = some (.int .i64 d) ∧ w'.cell? ⟨wr.heap.size, 0, none⟩ = some (.int .i64 x.a) ∧ w'.cell? ⟨wr.heap.size, 1, none⟩ = some (.int .i64 x.ai) ∧ w'.cell? ⟨wr.heap.size, 2, none⟩ = some (.int .i64 x.b) ∧ w'.cell? ⟨wr.heap.size, 3, none⟩ = some (.int .i64 x.bi) ∧ w'.cell? ⟨wr.heap.size, 4, none⟩ = some (.int .i64 x.kind)) (first | exact ⟨Mk.drew1 _, P0, P1, K0, K1, K2, K3, K4⟩ | (obtain ⟨s0, s1, s2, s3, s4, s5, s6, s7⟩ := ‹Mk0 _ _ ∧ _›; exact ⟨s0.trans m2, m2.cellAt s1, m2.cellAt s2, m2.cellAt s3, m2.cellAt s4, m2.cellAt s5, m2.cellAt s6, m2.cellAt s7⟩)) (first | (go_at_call 62; refine (portA _ _ _ _ _ _).mono ?_; rintro e w2 ⟨rfl, m2⟩) | (go_at_call 63; refine (portB _ _ _ _ _ _).mono ?_; rintro e w2 ⟨rfl, m2⟩))
          have m6 := (Mk.alloc wr _).trans (‹Mk0 _ _ ∧ _›).1
          clear P0 P1 K0 K1 K2 K3 K4 d0 d1 d2 d3 d4
          refine ‹∀ (a : Act) (w : World), _ → _› _ _ ?_
          go_wp2_with fail
          go_roundw
          case rel => exact ⟨rfl, k + 1, by omega, by go_num, hR.out.trans (firstIx_miss hlt (by rw [← hx.out]; exact HU.out)), hM.trans m6⟩
          case measure => simp [intOf]; omega
        · cases h4 : (x.bi == d)
          · have hu : x.uses r d = false := by simp_all [TLink.uses]
            have HU := Lib.hid hu
            clear hu
            go_wp2_with fail
            go_region_held3 (fun w' => Mk0 (wr.alloc (Obj.cells #[Value.int .i64 x.a, Value.int .i64 x.ai, Value.int .i64 x.b, Value.int .i64 x.bi, Value.int .i64 x.kind] 88)) w' ∧ w'.cell? ⟨w.heap.size + 1, 0, none⟩ = some (.int .i64 r) ∧ w'.cell? ⟨w.heap.size + 1, 1, none⟩ = some (.int .i64 d) ∧ w'.cell? ⟨wr.heap.size, 0, none⟩ = some (.int .i64 x.a) ∧ w'.cell? ⟨wr.heap.size, 1, none⟩ = some (.int .i64 x.ai) ∧ w'.cell? ⟨wr.heap.size, 2, none⟩ = some (.int .i64 x.b) ∧ w'.cell? ⟨wr.heap.size, 3, none⟩ = some (.int .i64 x.bi) ∧ w'.cell? ⟨wr.heap.size, 4, none⟩ = some (.int .i64 x.kind)) (first | exact ⟨Mk.drew1 _, P0, P1, K0, K1, K2, K3, K4⟩ | (obtain ⟨s0, s1, s2, s3, s4, s5, s6, s7⟩ := ‹Mk0 _ _ ∧ _›; exact ⟨s0.trans m2, m2.cellAt s1, m2.cellAt s2, m2.cellAt s3, m2.cellAt s4, m2.cellAt s5, m2.cellAt s6, m2.cellAt s7⟩)) (first | (go_at_call 62; refine (portA _ _ _ _ _ _).mono ?_; rintro e w2 ⟨rfl, m2⟩) | (go_at_call 63; refine (portB _ _ _ _ _ _).mono ?_; rintro e w2 ⟨rfl, m2⟩))
            have m6 := (Mk.alloc wr _).trans (‹Mk0 _ _ ∧ _›).1
            clear P0 P1 K0 K1 K2 K3 K4 d0 d1 d2 d3 d4
            refine ‹∀ (a : Act) (w : World), _ → _› _ _ ?_
            go_wp2_with fail
            go_roundw
            case rel => exact ⟨rfl, k + 1, by omega, by go_num, hR.out.trans (firstIx_miss hlt (by rw [← hx.out]; exact HU.out)), hM.trans m6⟩
            case measure => simp [intOf]; omega
          · have hu : x.uses r d = true := by simp_all [TLink.uses]
            have HU := Lib.hid hu
            clear hu
            go_wp2_with fail
            go_region_held3 (fun w' => Mk0 (wr.alloc (Obj.cells #[Value.int .i64 x.a, Value.int .i64 x.ai, Value.int .i64 x.b, Value.int .i64 x.bi, Value.int .i64 x.kind] 88)) w' ∧ w'.cell? ⟨w.heap.size + 1, 0, none⟩ = some (.int .i64 r) ∧ w'.cell? ⟨w.heap.size + 1, 1, none⟩ = some (.int .i64 d) ∧ w'.cell? ⟨wr.heap.size, 0, none⟩ = some (.int .i64 x.a) ∧ w'.cell? ⟨wr.heap.size, 1, none⟩ = some (.int .i64 x.ai) ∧ w'.cell? ⟨wr.heap.size, 2, none⟩ = some (.int .i64 x.b) ∧ w'.cell? ⟨wr.heap.size, 3, none⟩ = some (.int .i64 x.bi) ∧ w'.cell? ⟨wr.heap.size, 4, none⟩ = some (.int .i64 x.kind)) (first | exact ⟨Mk.drew1 _, P0, P1, K0, K1, K2, K3, K4⟩ | (obtain ⟨s0, s1, s2, s3, s4, s5, s6, s7⟩ := ‹Mk0 _ _ ∧ _›; exact ⟨s0.trans m2, m2.cellAt s1, m2.cellAt s2, m2.cellAt s3, m2.cellAt s4, m2.cellAt s5, m2.cellAt s6, m2.cellAt s7⟩)) (first | (go_at_call 62; refine (portA _ _ _ _ _ _).mono ?_; rintro e w2 ⟨rfl, m2⟩) | (go_at_call 63; refine (portB _ _ _ _ _ _).mono ?_; rintro e w2 ⟨rfl, m2⟩))
            have m6 := (Mk.alloc wr _).trans (‹Mk0 _ _ ∧ _›).1
            clear P0 P1 K0 K1 K2 K3 K4 d0 d1 d2 d3 d4
            refine ‹∀ (a : Act) (w : World), _ → _› _ _ ?_
            go_wp2_with fail
            go_ret
            exact ⟨retI (hR.out.trans (firstIx_hit hlt (by rw [← hx.out]; exact HU.out))).symm, hM'.trans m6⟩
      · cases h2 : (x.ai == d)
        · cases h3 : (x.b == r)
          · have hu : x.uses r d = false := by simp_all [TLink.uses]
            have HU := Lib.hid hu
            clear hu
            go_wp2_with fail
            go_region_held3 (fun w' => Mk0 (wr.alloc (Obj.cells #[Value.int .i64 x.a, Value.int .i64 x.ai, Value.int .i64 x.b, Value.int .i64 x.bi, Value.int .i64 x.kind] 88)) w' ∧ w'.cell? ⟨w.heap.size + 1, 0, none⟩ = some (.int .i64 r) ∧ w'.cell? ⟨w.heap.size + 1, 1, none⟩ = some (.int .i64 d) ∧ w'.cell? ⟨wr.heap.size, 0, none⟩ = some (.int .i64 x.a) ∧ w'.cell? ⟨wr.heap.size, 1, none⟩ = some (.int .i64 x.ai) ∧ w'.cell? ⟨wr.heap.size, 2, none⟩ = some (.int .i64 x.b) ∧ w'.cell? ⟨wr.heap.size, 3, none⟩ = some (.int .i64 x.bi) ∧ w'.cell? ⟨wr.heap.size, 4, none⟩ = some (.int .i64 x.kind)) (first | exact ⟨Mk.drew1 _, P0, P1, K0, K1, K2, K3, K4⟩ | (obtain ⟨s0, s1, s2, s3, s4, s5, s6, s7⟩ := ‹Mk0 _ _ ∧ _›; exact ⟨s0.trans m2, m2.cellAt s1, m2.cellAt s2, m2.cellAt s3, m2.cellAt s4, m2.cellAt s5, m2.cellAt s6, m2.cellAt s7⟩)) (first | (go_at_call 62; refine (portA _ _ _ _ _ _).mono ?_; rintro e w2 ⟨rfl, m2⟩) | (go_at_call 63; refine (portB _ _ _ _ _ _).mono ?_; rintro e w2 ⟨rfl, m2⟩))
            have m6 := (Mk.alloc wr _).trans (‹Mk0 _ _ ∧ _›).1
            clear P0 P1 K0 K1 K2 K3 K4 d0 d1 d2 d3 d4
            refine ‹∀ (a : Act) (w : World), _ → _› _ _ ?_
            go_wp2_with fail
            go_roundw
            case rel => exact ⟨rfl, k + 1, by omega, by go_num, hR.out.trans (firstIx_miss hlt (by rw [← hx.out]; exact HU.out)), hM.trans m6⟩
            case measure => simp [intOf]; omega
          · cases h4 : (x.bi == d)
            · have hu : x.uses r d = false := by simp_all [TLink.uses]
              have HU := Lib.hid hu
              clear hu
              go_wp2_with fail
              go_region_held3 (fun w' => Mk0 (wr.alloc (Obj.cells #[Value.int .i64 x.a, Value.int .i64 x.ai, Value.int .i64 x.b, Value.int .i64 x.bi, Value.int .i64 x.kind] 88)) w' ∧ w'.cell? ⟨w.heap.size + 1, 0, none⟩ = some (.int .i64 r) ∧ w'.cell? ⟨w.heap.size + 1, 1, none⟩ = some (.int .i64 d) ∧ w'.cell? ⟨wr.heap.size, 0, none⟩ = some (.int .i64 x.a) ∧ w'.cell? ⟨wr.heap.size, 1, none⟩ = some (.int .i64 x.ai) ∧ w'.cell? ⟨wr.heap.size, 2, none⟩ = some (.int .i64 x.b) ∧ w'.cell? ⟨wr.heap.size, 3, none⟩ = some (.int .i64 x.bi) ∧ w'.cell? ⟨wr.heap.size, 4, none⟩ = some (.int .i64 x.kind)) (first | exact ⟨Mk.drew1 _, P0, P1, K0, K1, K2, K3, K4⟩ | (obtain ⟨s0, s1, s2, s3, s4, s5, s6, s7⟩ := ‹Mk0 _ _ ∧ _›; exact ⟨s0.trans m2, m2.cellAt s1, m2.cellAt s2, m2.cellAt s3, m2.cellAt s4, m2.cellAt s5, m2.cellAt s6, m2.cellAt s7⟩)) (first | (go_at_call 62; refine (portA _ _ _ _ _ _).mono ?_; rintro e w2 ⟨rfl, m2⟩) | (go_at_call 63; refine (portB _ _ _ _ _ _).mono ?_; rintro e w2 ⟨rfl, m2⟩))
              have m6 := (Mk.alloc wr _).trans (‹Mk0 _ _ ∧ _›).1
              clear P0 P1 K0 K1 K2 K3 K4 d0 d1 d2 d3 d4
              refine ‹∀ (a : Act) (w : World), _ → _› _ _ ?_
              go_wp2_with fail
              go_roundw
              case rel => exact ⟨rfl, k + 1, by omega, by go_num, hR.out.trans (firstIx_miss hlt (by rw [← hx.out]; exact HU.out)), hM.trans m6⟩
              case measure => simp [intOf]; omega
            · have hu : x.uses r d = true := by simp_all [TLink.uses]
              have HU := Lib.hid hu
              clear hu
              go_wp2_with fail
              go_region_held3 (fun w' => Mk0 (wr.alloc (Obj.cells #[Value.int .i64 x.a, Value.int .i64 x.ai, Value.int .i64 x.b, Value.int .i64 x.bi, Value.int .i64 x.kind] 88)) w' ∧ w'.cell? ⟨w.heap.size + 1, 0, none⟩ = some (.int .i64 r) ∧ w'.cell? ⟨w.heap.size + 1, 1, none⟩ = some (.int .i64 d) ∧ w'.cell? ⟨wr.heap.size, 0, none⟩ = some (.int .i64 x.a) ∧ w'.cell? ⟨wr.heap.size, 1, none⟩ = some (.int .i64 x.ai) ∧ w'.cell? ⟨wr.heap.size, 2, none⟩ = some (.int .i64 x.b) ∧ w'.cell? ⟨wr.heap.size, 3, none⟩ = some (.int .i64 x.bi) ∧ w'.cell? ⟨wr.heap.size, 4, none⟩ = some (.int .i64 x.kind)) (first | exact ⟨Mk.drew1 _, P0, P1, K0, K1, K2, K3, K4⟩ | (obtain ⟨s0, s1, s2, s3, s4, s5, s6, s7⟩ := ‹Mk0 _ _ ∧ _›; exact ⟨s0.trans m2, m2.cellAt s1, m2.cellAt s2, m2.cellAt s3, m2.cellAt s4, m2.cellAt s5, m2.cellAt s6, m2.cellAt s7⟩)) (first | (go_at_call 62; refine (portA _ _ _ _ _ _).mono ?_; rintro e w2 ⟨rfl, m2⟩) | (go_at_call 63; refine (portB _ _ _ _ _ _).mono ?_; rintro e w2 ⟨rfl, m2⟩))
              have m6 := (Mk.alloc wr _).trans (‹Mk0 _ _ ∧ _›).1
              clear P0 P1 K0 K1 K2 K3 K4 d0 d1 d2 d3 d4
              refine ‹∀ (a : Act) (w : World), _ → _› _ _ ?_
              go_wp2_with fail
              go_ret
              exact ⟨retI (hR.out.trans (firstIx_hit hlt (by rw [← hx.out]; exact HU.out))).symm, hM'.trans m6⟩
        · have hu : x.uses r d = true := by simp_all [TLink.uses]
          have HU := Lib.hid hu
          clear hu
          go_wp2_with fail
          go_region_with (first | (go_at_call 62; refine (portA _ _ _ _ _ _).mono ?_; rintro e w2 ⟨rfl, m2⟩; obtain ⟨R0, R1, _⟩ := port_keep m2 rfl y1 p0 p1))
          all_goals (
            have m4 : Mk0 (wr.alloc (Obj.cells #[Value.int .i64 x.a, Value.int .i64 x.ai, Value.int .i64 x.b, Value.int .i64 x.bi, Value.int .i64 x.kind] 88)) w2 := ⟨m2.os, m2.tape, m2.output, m2.size, m2.block⟩
            have m6 := (Mk.alloc wr _).trans m4
            clear P0 P1 K0 K1 K2 K3 K4 d0 d1 d2 d3 d4 m2
            refine ‹∀ (a : Act) (w : World), _ → _› _ _ ?_
            go_wp2_with fail
            go_ret
            exact ⟨retI (hR.out.trans (firstIx_hit hlt (by rw [← hx.out]; exact HU.out))).symm, hM'.trans m6⟩)
    · obtain rfl : k = n1 := by omega
      go_wp2_with fail
      go_ret
      exact ⟨retI (hR.out.trans (firstIx_end _ _)).symm, hM'⟩

end Go.Proofs.YtdhdkhnefnbdgaaGreatDoor
namespace Go.Proofs.YtdhdkhnefnbdgaaGreatDoor
open Go.ChangeShapes Go.WideShapes Go.ChangeAt Go.RowKit
set_option linter.unusedVariables false
def remote (zs : List TLink) (r d : Int) (n : Nat) : Int × Int :=
  if lkIx zs r d n < 0 then (-1, 0) else
    if (zs.getD (lkIx zs r d n).toNat default).a = r ∧ (zs.getD (lkIx zs r d n).toNat default).ai = d then ((zs.getD (lkIx zs r d n).toNat default).b, (zs.getD (lkIx zs r d n).toNat default).bi)
    else ((zs.getD (lkIx zs r d n).toNat default).a, (zs.getD (lkIx zs r d n).toNat default).ai)
theorem remote_none {zs : List TLink} {r d : Int} {n : Nat} (h : lkIx zs r d n = -1) : remote zs r d n = (-1, 0) := by simp [remote, h]
theorem remote_a {zs : List TLink} {r d : Int} {n q : Nat} {x : TLink} (h : lkIx zs r d n = (q : Int)) (hx : x = zs.getD q default) (h1 : (x.a == r) = true) (h2 : (x.ai == d) = true) : remote zs r d n = (x.b, x.bi) := by
  subst hx
  have e : ((q : Nat) : Int).toNat = q := by omega
  unfold remote
  rw [h, e, if_neg (by omega), if_pos ⟨eq_of_beq h1, eq_of_beq h2⟩]
theorem remote_b {zs : List TLink} {r d : Int} {n q : Nat} {x : TLink} (h : lkIx zs r d n = (q : Int)) (hx : x = zs.getD q default) (h1 : (x.a == r) = false ∨ (x.ai == d) = false) : remote zs r d n = (x.a, x.ai) := by
  subst hx
  have e : ((q : Nat) : Int).toNat = q := by omega
  unfold remote
  rw [h, e, if_neg (by omega), if_neg (fun hh => by
    rcases h1 with h1 | h1
    · rw [hh.1] at h1; simp at h1
    · rw [hh.2] at h1; simp at h1)]
theorem ret_2 {a b : Int} {p : Int × Int} (h : p = (a, b)) : Ending.returned (.tuple #[.int .i64 a, .int .i64 b]) = .returned (.tuple #[.int .i64 p.1, .int .i64 p.2]) := by rw [h]
theorem lkIx_cases (zs : List TLink) (r d : Int) (n : Nat) : lkIx zs r d n = -1 ∨ ∃ q : Nat, lkIx zs r d n = (q : Int) ∧ q < n := by
  rcases firstIx_range (fun k => (zs.getD k default).uses r d) n 0 with h | ⟨q, h1, _, h2⟩
  · exact .inl h
  · exact .inr ⟨q, h1, by omega⟩

set_option maxRecDepth 100000 in
set_option maxHeartbeats 4000000 in
theorem specRemote (a0 a1 : Option Addr) (n0 c0 n1 c1 B : Nat) (zs : List TLink) (r d : Int) (w : World) (h : HasLink w B a1 n1 zs) (hB : B ≤ w.heap.size) (hn : n1 ≤ 1048576) :
    Calls Tryz.prog 26 #[.agg #[.slice a0 n0 c0, .slice a1 n1 c1], .int .i64 r, .int .i64 d] w fun e w' => e = .returned (.tuple #[.int .i64 (remote zs r d n1).1, .int .i64 (remote zs r d n1).2]) ∧ Mk0 w w' := by
  rcases lkIx_cases zs r d n1 with hq | ⟨q, hq, hlt⟩
  · go_enter Tryz.func26, Tryz.ntmps26
    go_wp2_with fail
    have M0 := Mk.alloc w (Obj.cells #[Value.slice a0 n0 c0, Value.slice a1 n1 c1] 35)
    have k0 : (w.alloc (Obj.cells #[Value.slice a0 n0 c0, Value.slice a1 n1 c1] 35)).cell? ⟨w.heap.size, 1, none⟩ = some (.slice a1 n1 c1) := by simp [go_sem]
    refine (specLinkIx _ _ _ _ _ _ _ zs _ _ _ (h.mk M0 hB (.inr (Nat.le_refl _))) (by rw [World.size_alloc]; omega) hn).mono ?_
    rintro e w1 ⟨he, m1⟩
    rw [hq] at he
    subst he
    have M1 := M0.trans m1
    replace k0 := m1.cellAt k0
    have HQ := Lib.hid hq
    clear hq
    go_wp2_with fail
    go_ret2
    exact ⟨ret_2 (remote_none HQ.out), M1⟩
  · go_enter Tryz.func26, Tryz.ntmps26
    go_wp2_with fail
    have M0 := Mk.alloc w (Obj.cells #[Value.slice a0 n0 c0, Value.slice a1 n1 c1] 35)
    have k0 : (w.alloc (Obj.cells #[Value.slice a0 n0 c0, Value.slice a1 n1 c1] 35)).cell? ⟨w.heap.size, 1, none⟩ = some (.slice a1 n1 c1) := by simp [go_sem]
    refine (specLinkIx _ _ _ _ _ _ _ zs _ _ _ (h.mk M0 hB (.inr (Nat.le_refl _))) (by rw [World.size_alloc]; omega) hn).mono ?_
    rintro e w1 ⟨he, m1⟩
    rw [hq] at he
    subst he
    have M1 := M0.trans m1
    replace k0 := m1.cellAt k0
    have HQ := Lib.hid hq
    clear hq
    obtain ⟨b, off, x, rfl, hb, hx, d0, d1, d2, d3, d4⟩ := HasLink.at _ _ _ _ _ _ (h.mk M1 hB (.inr (Nat.le_refl _))) hlt
    cases h1 : (x.a == r)
    · go_wp2_with fail
      go_quiet (fail)
      go_wp2_with fail
      go_ret2
      exact ⟨ret_2 (remote_b HQ.out hx.out (.inl h1)), (M1.new _).trans (Mk.drewN _ _)⟩
    · cases h2 : (x.ai == d)
      · go_wp2_with fail
        go_quiet (fail)
        go_wp2_with fail
        go_ret2
        exact ⟨ret_2 (remote_b HQ.out hx.out (.inr h2)), (M1.new _).trans (Mk.drewN _ _)⟩
      · go_wp2_with fail
        go_quiet (fail)
        go_wp2_with fail
        go_ret2
        exact ⟨ret_2 (remote_a HQ.out hx.out h1 h2), (M1.new _).trans (Mk.drewN _ _)⟩

set_option maxRecDepth 100000 in
set_option maxHeartbeats 4000000 in
theorem implRemote (a0 a1 : Option Addr) (n0 c0 n1 c1 B : Nat) (zs : List TLink) (r d : Int) (w : World) (h : HasLink w B a1 n1 zs) (hB : B ≤ w.heap.size) (hn : n1 ≤ 1048576) :
    Calls Tryz.prog 35 #[.agg #[.slice a0 n0 c0, .slice a1 n1 c1], .int .i64 r, .int .i64 d] w fun e w' => e = .returned (.tuple #[.int .i64 (remote zs r d n1).1, .int .i64 (remote zs r d n1).2]) ∧ Mk0 w w' := by
  rcases lkIx_cases zs r d n1 with hq | ⟨q, hq, hlt⟩
  · go_enter Tryz.func35, Tryz.ntmps35
    go_wp2_with fail
    have M0 := Mk.alloc w (Obj.cells #[Value.slice a0 n0 c0, Value.slice a1 n1 c1] 35)
    have k0 : (w.alloc (Obj.cells #[Value.slice a0 n0 c0, Value.slice a1 n1 c1] 35)).cell? ⟨w.heap.size, 1, none⟩ = some (.slice a1 n1 c1) := by simp [go_sem]
    refine (implLinkIx _ _ _ _ _ _ _ zs _ _ _ (h.mk M0 hB (.inr (Nat.le_refl _))) (by rw [World.size_alloc]; omega) hn).mono ?_
    rintro e w1 ⟨he, m1⟩
    rw [hq] at he
    subst he
    have M1 := M0.trans m1
    replace k0 := m1.cellAt k0
    have HQ := Lib.hid hq
    clear hq
    go_wp2_with fail
    go_ret2
    exact ⟨ret_2 (remote_none HQ.out), M1⟩
  · go_enter Tryz.func35, Tryz.ntmps35
    go_wp2_with fail
    have M0 := Mk.alloc w (Obj.cells #[Value.slice a0 n0 c0, Value.slice a1 n1 c1] 35)
    have k0 : (w.alloc (Obj.cells #[Value.slice a0 n0 c0, Value.slice a1 n1 c1] 35)).cell? ⟨w.heap.size, 1, none⟩ = some (.slice a1 n1 c1) := by simp [go_sem]
    refine (implLinkIx _ _ _ _ _ _ _ zs _ _ _ (h.mk M0 hB (.inr (Nat.le_refl _))) (by rw [World.size_alloc]; omega) hn).mono ?_
    rintro e w1 ⟨he, m1⟩
    rw [hq] at he
    subst he
    have M1 := M0.trans m1
    replace k0 := m1.cellAt k0
    have HQ := Lib.hid hq
    clear hq
    obtain ⟨b, off, x, rfl, hb, hx, d0, d1, d2, d3, d4⟩ := HasLink.at _ _ _ _ _ _ (h.mk M1 hB (.inr (Nat.le_refl _))) hlt
    go_wp2_with fail
    refine (portA _ _ _ _ _ _).mono ?_
    rintro e w2 ⟨rfl, m2⟩
    have M2 := M1.trans m2
    replace k0 := m2.cellAt k0
    replace d0 := m2.cellAt d0
    replace d1 := m2.cellAt d1
    replace d2 := m2.cellAt d2
    replace d3 := m2.cellAt d3
    replace d4 := m2.cellAt d4
    have y0 := World.block_lt_of_cell? _ _ k0
    have y1 := World.block_lt_of_cell? _ _ d0
    simp only at y0 y1
    cases h1 : (x.a == r)
    · go_wp2_with fail
      go_quiet (fail)
      go_wp2_with fail
      go_ret2
      exact ⟨ret_2 (remote_b HQ.out hx.out (.inl h1)), (M2.new _).trans (Mk.drewN _ _)⟩
    · cases h2 : (x.ai == d)
      · go_wp2_with fail
        go_quiet (fail)
        go_wp2_with fail
        go_ret2
        exact ⟨ret_2 (remote_b HQ.out hx.out (.inr h2)), (M2.new _).trans (Mk.drewN _ _)⟩
      · go_wp2_with fail
        refine (portB _ _ _ _ _ _).mono ?_
        rintro e w3 ⟨rfl, m3⟩
        have M3 := (M2.new _).trans m3
        have F0 : (w2.alloc (Obj.cells #[Value.int .i64 x.a, Value.int .i64 x.ai] 98)).cell? ⟨w2.heap.size, 0, none⟩ = some (.int .i64 x.a) := by rw [World.cell?_alloc_at _ _ _ _ rfl]; rfl
        have F1 : (w2.alloc (Obj.cells #[Value.int .i64 x.a, Value.int .i64 x.ai] 98)).cell? ⟨w2.heap.size, 1, none⟩ = some (.int .i64 x.ai) := by rw [World.cell?_alloc_at _ _ _ _ rfl]; rfl
        have E0 : w3.frozen? ⟨w2.heap.size, 0, none⟩ = false := m3.frozenAt F0 (by simp [go_sem])
        have E1 : w3.frozen? ⟨w2.heap.size, 1, none⟩ = false := m3.frozenAt F1 (by simp [go_sem])
        replace F0 := m3.cellAt F0
        replace F1 := m3.cellAt F1
        go_wp2_with fail
        go_quiet (fail)
        go_wp2_with fail
        go_ret2
        exact ⟨ret_2 (remote_a HQ.out hx.out h1 h2), ((M3.put _ _ (Nat.le_of_lt y0)).put _ _ (Nat.le_of_lt y0)).trans (Mk.drewN _ _)⟩
end Go.Proofs.YtdhdkhnefnbdgaaGreatDoor
namespace Go.Proofs.YtdhdkhnefnbdgaaGreatDoor
open Go.ChangeShapes Go.WideShapes Go.ChangeAt Go.RowKit
set_option linter.unusedVariables false


theorem kind_cases (k : Int) : ((k == 1) = true ∧ (k == 2) = false ∧ (k == 3) = false) ∨ ((k == 1) = false ∧ (k == 2) = true ∧ (k == 3) = false) ∨ ((k == 1) = false ∧ (k == 2) = false ∧ (k == 3) = true) ∨ ((k == 1) = false ∧ (k == 2) = false ∧ (k == 3) = false) := by
  by_cases h1 : k = 1
  · subst h1; exact .inl ⟨rfl, rfl, rfl⟩
  by_cases h2 : k = 2
  · subst h2; exact .inr (.inl ⟨rfl, rfl, rfl⟩)
  by_cases h3 : k = 3
  · subst h3; exact .inr (.inr (.inl ⟨rfl, rfl, rfl⟩))
  · exact .inr (.inr (.inr ⟨by simpa using h1, by simpa using h2, by simpa using h3⟩))
def kindOf (zs : List TLink) (r d : Int) (n : Nat) : Int :=
  if d = 0 then 5 else if lkIx zs r d n < 0 then 0 else
    if (zs.getD (lkIx zs r d n).toNat default).kind = 1 then 1
    else if (zs.getD (lkIx zs r d n).toNat default).kind = 2 then (if (zs.getD (lkIx zs r d n).toNat default).a = r ∧ (zs.getD (lkIx zs r d n).toNat default).ai = d then 2 else 3)
    else if (zs.getD (lkIx zs r d n).toNat default).kind = 3 then 4 else 0
theorem kindOf_self {zs : List TLink} {r d : Int} {n : Nat} (h : d = 0) : kindOf zs r d n = 5 := by simp [kindOf, h]
theorem kindOf_none {zs : List TLink} {r d : Int} {n : Nat} (h0 : (d == 0) = false) (h : lkIx zs r d n = -1) : kindOf zs r d n = 0 := by
  have : d ≠ 0 := by simpa using h0
  simp [kindOf, h, this]
theorem kindOf_at {zs : List TLink} {r d : Int} {n q : Nat} {x : TLink} (h0 : (d == 0) = false) (h : lkIx zs r d n = (q : Int)) (hx : x = zs.getD q default) :
    kindOf zs r d n = if x.kind = 1 then 1 else if x.kind = 2 then (if x.a = r ∧ x.ai = d then 2 else 3) else if x.kind = 3 then 4 else 0 := by
  subst hx
  have hd : d ≠ 0 := by simpa using h0
  have e : ((q : Nat) : Int).toNat = q := by omega
  unfold kindOf
  rw [h, e, if_neg hd, if_neg (by omega)]

set_option maxRecDepth 100000 in
set_option maxHeartbeats 4000000 in
theorem specKind (a0 a1 : Option Addr) (n0 c0 n1 c1 B : Nat) (zs : List TLink) (r d : Int) (w : World) (h : HasLink w B a1 n1 zs) (hB : B ≤ w.heap.size) (hn : n1 ≤ 1048576) :
    Calls Tryz.prog 75 #[.agg #[.slice a0 n0 c0, .slice a1 n1 c1], .int .i64 r, .int .i64 d] w fun e w' => e = .returned (.int .i64 (kindOf zs r d n1)) ∧ Mk0 w w' := by
  by_cases hd : d = 0
  · have HR := Lib.hid (kindOf_self (zs := zs) (r := r) (n := n1) hd)
    go_enter Tryz.func75, Tryz.ntmps75
    go_wp2_with fail
    go_ret
    exact ⟨retI HR.out.symm, Mk.alloc _ _⟩
  have h0 : (d == 0) = false := by simpa using hd
  clear hd
  rcases lkIx_cases zs r d n1 with hq | ⟨q, hq, hlt⟩
  · go_enter Tryz.func75, Tryz.ntmps75
    go_wp2_with fail
    have M0 := Mk.alloc w (Obj.cells #[Value.slice a0 n0 c0, Value.slice a1 n1 c1] 35)
    have k0 : (w.alloc (Obj.cells #[Value.slice a0 n0 c0, Value.slice a1 n1 c1] 35)).cell? ⟨w.heap.size, 1, none⟩ = some (.slice a1 n1 c1) := by simp [go_sem]
    refine (specLinkIx _ _ _ _ _ _ _ zs _ _ _ (h.mk M0 hB (.inr (Nat.le_refl _))) (by rw [World.size_alloc]; omega) hn).mono ?_
    rintro e w1 ⟨he, m1⟩
    rw [hq] at he
    subst he
    have M1 := M0.trans m1
    replace k0 := m1.cellAt k0
    have HQ := Lib.hid hq
    clear hq
    go_wp2_with fail
    go_ret
    exact ⟨retI (kindOf_none h0 HQ.out).symm, M1⟩
  · go_enter Tryz.func75, Tryz.ntmps75
    go_wp2_with fail
    have M0 := Mk.alloc w (Obj.cells #[Value.slice a0 n0 c0, Value.slice a1 n1 c1] 35)
    have k0 : (w.alloc (Obj.cells #[Value.slice a0 n0 c0, Value.slice a1 n1 c1] 35)).cell? ⟨w.heap.size, 1, none⟩ = some (.slice a1 n1 c1) := by simp [go_sem]
    refine (specLinkIx _ _ _ _ _ _ _ zs _ _ _ (h.mk M0 hB (.inr (Nat.le_refl _))) (by rw [World.size_alloc]; omega) hn).mono ?_
    rintro e w1 ⟨he, m1⟩
    rw [hq] at he
    subst he
    have M1 := M0.trans m1
    replace k0 := m1.cellAt k0
    have HQ := Lib.hid hq
    clear hq
    obtain ⟨b, off, x, rfl, hb, hx, d0, d1, d2, d3, d4⟩ := HasLink.at _ _ _ _ _ _ (h.mk M1 hB (.inr (Nat.le_refl _))) hlt
    have HR := Lib.hid (kindOf_at h0 HQ.out hx.out)
    rcases kind_cases x.kind with ⟨e1, e2, e3⟩ | ⟨e1, e2, e3⟩ | ⟨e1, e2, e3⟩ | ⟨e1, e2, e3⟩
    · go_wp2_with fail
      go_ret
      exact ⟨retI (HR.out.trans (by simp_all)).symm, M1.new _⟩
    · cases h1 : (x.a == r)
      · go_wp2_with fail
        go_ret
        exact ⟨retI (HR.out.trans (by simp_all)).symm, M1.new _⟩
      · cases h2 : (x.ai == d)
        · go_wp2_with fail
          go_ret
          exact ⟨retI (HR.out.trans (by simp_all)).symm, M1.new _⟩
        · go_wp2_with fail
          go_ret
          exact ⟨retI (HR.out.trans (by simp_all)).symm, M1.new _⟩
    · go_wp2_with fail
      go_ret
      exact ⟨retI (HR.out.trans (by simp_all)).symm, M1.new _⟩
    · go_wp2_with fail
      go_ret
      exact ⟨retI (HR.out.trans (by simp_all)).symm, M1.new _⟩

set_option maxRecDepth 100000 in
set_option maxHeartbeats 4000000 in
theorem implKind (a0 a1 : Option Addr) (n0 c0 n1 c1 B : Nat) (zs : List TLink) (r d : Int) (w : World) (h : HasLink w B a1 n1 zs) (hB : B ≤ w.heap.size) (hn : n1 ≤ 1048576) :
    Calls Tryz.prog 100 #[.agg #[.slice a0 n0 c0, .slice a1 n1 c1], .int .i64 r, .int .i64 d] w fun e w' => e = .returned (.int .i64 (kindOf zs r d n1)) ∧ Mk0 w w' := by
  by_cases hd : d = 0
  · have HR := Lib.hid (kindOf_self (zs := zs) (r := r) (n := n1) hd)
    go_enter Tryz.func100, Tryz.ntmps100
    go_wp2_with fail
    go_ret
    exact ⟨retI HR.out.symm, Mk.alloc _ _⟩
  have h0 : (d == 0) = false := by simpa using hd
  clear hd
  rcases lkIx_cases zs r d n1 with hq | ⟨q, hq, hlt⟩
  · go_enter Tryz.func100, Tryz.ntmps100
    go_wp2_with fail
    have M0 := Mk.alloc w (Obj.cells #[Value.slice a0 n0 c0, Value.slice a1 n1 c1] 35)
    have k0 : (w.alloc (Obj.cells #[Value.slice a0 n0 c0, Value.slice a1 n1 c1] 35)).cell? ⟨w.heap.size, 1, none⟩ = some (.slice a1 n1 c1) := by simp [go_sem]
    refine (implLinkIx _ _ _ _ _ _ _ zs _ _ _ (h.mk M0 hB (.inr (Nat.le_refl _))) (by rw [World.size_alloc]; omega) hn).mono ?_
    rintro e w1 ⟨he, m1⟩
    rw [hq] at he
    subst he
    have M1 := M0.trans m1
    replace k0 := m1.cellAt k0
    have HQ := Lib.hid hq
    clear hq
    go_wp2_with fail
    go_ret
    exact ⟨retI (kindOf_none h0 HQ.out).symm, M1⟩
  · go_enter Tryz.func100, Tryz.ntmps100
    go_wp2_with fail
    have M0 := Mk.alloc w (Obj.cells #[Value.slice a0 n0 c0, Value.slice a1 n1 c1] 35)
    have k0 : (w.alloc (Obj.cells #[Value.slice a0 n0 c0, Value.slice a1 n1 c1] 35)).cell? ⟨w.heap.size, 1, none⟩ = some (.slice a1 n1 c1) := by simp [go_sem]
    refine (implLinkIx _ _ _ _ _ _ _ zs _ _ _ (h.mk M0 hB (.inr (Nat.le_refl _))) (by rw [World.size_alloc]; omega) hn).mono ?_
    rintro e w1 ⟨he, m1⟩
    rw [hq] at he
    subst he
    have M1 := M0.trans m1
    replace k0 := m1.cellAt k0
    have HQ := Lib.hid hq
    clear hq
    obtain ⟨b, off, x, rfl, hb, hx, d0, d1, d2, d3, d4⟩ := HasLink.at _ _ _ _ _ _ (h.mk M1 hB (.inr (Nat.le_refl _))) hlt
    have HR := Lib.hid (kindOf_at h0 HQ.out hx.out)
    rcases kind_cases x.kind with ⟨e1, e2, e3⟩ | ⟨e1, e2, e3⟩ | ⟨e1, e2, e3⟩ | ⟨e1, e2, e3⟩
    · go_wp2_with fail
      go_ret
      exact ⟨retI (HR.out.trans (by simp_all)).symm, M1.new _⟩
    · cases h1 : (x.a == r)
      · go_wp2_with fail
        refine (portA _ _ _ _ _ _).mono ?_
        rintro e w2 ⟨rfl, m2⟩
        go_wp2_with fail
        go_ret
        exact ⟨retI (HR.out.trans (by simp_all)).symm, (M1.new _).trans m2⟩
      · cases h2 : (x.ai == d)
        · go_wp2_with fail
          refine (portA _ _ _ _ _ _).mono ?_
          rintro e w2 ⟨rfl, m2⟩
          go_wp2_with fail
          go_ret
          exact ⟨retI (HR.out.trans (by simp_all)).symm, (M1.new _).trans m2⟩
        · go_wp2_with fail
          refine (portA _ _ _ _ _ _).mono ?_
          rintro e w2 ⟨rfl, m2⟩
          go_wp2_with fail
          go_ret
          exact ⟨retI (HR.out.trans (by simp_all)).symm, (M1.new _).trans m2⟩
    · go_wp2_with fail
      go_ret
      exact ⟨retI (HR.out.trans (by simp_all)).symm, M1.new _⟩
    · go_wp2_with fail
      go_ret
      exact ⟨retI (HR.out.trans (by simp_all)).symm, M1.new _⟩

end Go.Proofs.YtdhdkhnefnbdgaaGreatDoor
