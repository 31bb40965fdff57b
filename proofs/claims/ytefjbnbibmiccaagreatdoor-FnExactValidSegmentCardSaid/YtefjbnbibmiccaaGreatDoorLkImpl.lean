
/- LinkIndex of the program. -/
import Derived.Test.YtefjbnbibmiccaaGreatDoorPorts
import Derived.Deep.RegionHeld3
namespace Go.Proofs.YtefjbnbibmiccaaGreatDoor
open Go.ChangeShapes Go.WideShapes Go.ChangeAt Go.RowKit
set_option linter.unusedVariables false
set_option maxRecDepth 100000 in
set_option maxHeartbeats 4000000 in
theorem implLinkIx (a0 a1 : Option Addr) (n0 c0 n1 c1 B : Nat) (zs : List TLink) (r d : Int) (w : World) (h : HasLink w B a1 n1 zs) (hB : B ≤ w.heap.size) (hn : n1 ≤ 1048576) :
    Calls Tryz.prog 77 #[.agg #[.slice a0 n0 c0, .slice a1 n1 c1], .int .i64 r, .int .i64 d] w fun e w' => e = .returned (.int .i64 (lkIx zs r d n1)) ∧ Mk0 w w' := by
  go_enter Tryz.func77, Tryz.ntmps77
  go_wp2_with fail
  have M0 := (Mk.alloc w (Obj.cells #[Value.slice a0 n0 c0, Value.slice a1 n1 c1] 35)).new (Obj.cells #[Value.int .i64 r, Value.int .i64 d] 107)
  go_loopw [6, 16] (fun q i wr => q = .int .i64 0 ∧ ∃ k : Nat, k ≤ n1 ∧ i = .int .i64 k ∧ Hid (lkIx zs r d n1 = firstIx (fun k => (zs.getD k default).uses r d) k (n1 - k)) ∧ Mk0 ((w.alloc (Obj.cells #[Value.slice a0 n0 c0, Value.slice a1 n1 c1] 35)).alloc (Obj.cells #[Value.int .i64 r, Value.int .i64 d] 107)) wr) (fun _ i _ => n1 - (intOf i).toNat)
  case atStart => exact ⟨rfl, 0, Nat.zero_le _, rfl, rfl, Mk.refl _ _ _⟩
  case round =>
    obtain ⟨rfl, k, hk, rfl, hR, hM⟩ := hrel
    obtain ⟨q1, r1⟩ := hM.kept
    have hM' := M0.trans hM
    have y0 : w.heap.size < wr.heap.size := by have := hM.size; simp at this; omega
    have y1 : w.heap.size + 1 < wr.heap.size := by have := hM.size; simp at this; omega
    by_cases hlt : k < n1
    · obtain ⟨b, off, x, rfl, hb, hx, d0, d1, d2, d3, d4⟩ := HasLink.at _ _ _ _ _ _ (h.mk hM' hB (.inr (Nat.le_refl _))) hlt
      have p0 : wr.cell? ⟨w.heap.size + 1, 0, none⟩ = some (.int .i64 r) := by rw [q1 _ _ (by simp)]; simp [go_sem]
      have p1 : wr.cell? ⟨w.heap.size + 1, 1, none⟩ = some (.int .i64 d) := by rw [q1 _ _ (by simp)]; simp [go_sem]
      have p2 : wr.cell? ⟨w.heap.size, 1, none⟩ = some (.slice (some ⟨b, off, none⟩) n1 c1) := by rw [q1 _ _ (by simp; omega)]; simp [go_sem]
      clear q1 r1
      have P0 := (Mk.alloc wr (Obj.cells #[Value.int .i64 x.a, Value.int .i64 x.ai, Value.int .i64 x.b, Value.int .i64 x.bi, Value.int .i64 x.kind] 84)).cellAt p0
      have P1 := (Mk.alloc wr (Obj.cells #[Value.int .i64 x.a, Value.int .i64 x.ai, Value.int .i64 x.b, Value.int .i64 x.bi, Value.int .i64 x.kind] 84)).cellAt p1
      have K0 : (wr.alloc (Obj.cells #[Value.int .i64 x.a, Value.int .i64 x.ai, Value.int .i64 x.b, Value.int .i64 x.bi, Value.int .i64 x.kind] 84)).cell? ⟨wr.heap.size, 0, none⟩ = some (.int .i64 x.a) := by rw [World.cell?_alloc_at _ _ _ _ rfl]; rfl
      have K1 : (wr.alloc (Obj.cells #[Value.int .i64 x.a, Value.int .i64 x.ai, Value.int .i64 x.b, Value.int .i64 x.bi, Value.int .i64 x.kind] 84)).cell? ⟨wr.heap.size, 1, none⟩ = some (.int .i64 x.ai) := by rw [World.cell?_alloc_at _ _ _ _ rfl]; rfl
      have K2 : (wr.alloc (Obj.cells #[Value.int .i64 x.a, Value.int .i64 x.ai, Value.int .i64 x.b, Value.int .i64 x.bi, Value.int .i64 x.kind] 84)).cell? ⟨wr.heap.size, 2, none⟩ = some (.int .i64 x.b) := by rw [World.cell?_alloc_at _ _ _ _ rfl]; rfl
      have K3 : (wr.alloc (Obj.cells #[Value.int .i64 x.a, Value.int .i64 x.ai, Value.int .i64 x.b, Value.int .i64 x.bi, Value.int .i64 x.kind] 84)).cell? ⟨wr.heap.size, 3, none⟩ = some (.int .i64 x.bi) := by rw [World.cell?_alloc_at _ _ _ _ rfl]; rfl
      have K4 : (wr.alloc (Obj.cells #[Value.int .i64 x.a, Value.int .i64 x.ai, Value.int .i64 x.b, Value.int .i64 x.bi, Value.int .i64 x.kind] 84)).cell? ⟨wr.heap.size, 4, none⟩ = some (.int .i64 x.kind) := by rw [World.cell?_alloc_at _ _ _ _ rfl]; rfl
      cases h1 : (x.a == r)
      · cases h3 : (x.b == r)
        · have hu : x.uses r d = false := by simp_all [TLink.uses]
          have HU := Lib.hid hu
          clear hu
          go_wp2_with fail
          go_region_held3 (fun w' => Mk0 (wr.alloc (Obj.cells #[Value.int .i64 x.a, Value.int .i64 x.ai, Value.int .i64 x.b, Value.int .i64 x.bi, Value.int .i64 x.kind] 84)) w' ∧ w'.cell? ⟨w.heap.size + 1, 0, none⟩ = some (.int .i64 r) ∧ w'.cell? ⟨w.heap.size + 1, 1, none⟩ = some (.int .i64 d) ∧ w'.cell? ⟨wr.heap.size, 0, none⟩ = some (.int .i64 x.a) ∧ w'.cell? ⟨wr.heap.size, 1, none⟩ = some (.int .i64 x.ai) ∧ w'.cell? ⟨wr.heap.size, 2, none⟩ = some (.int .i64 x.b) ∧ w'.cell? ⟨wr.heap.size, 3, none⟩ = some (.int .i64 x.bi) ∧ w'.cell? ⟨wr.heap.size, 4, none⟩ = some (.int .i64 x.kind)) (first | exact ⟨Mk.drew1 _, P0, P1, K0, K1, K2, K3, K4⟩ | (obtain ⟨s0, s1, s2, s3, s4, s5, s6, s7⟩ := ‹Mk0 _ _ ∧ _›; exact ⟨s0.trans m2, m2.cellAt s1, m2.cellAt s2, m2.cellAt s3, m2.cellAt s4, m2.cellAt s5, m2.cellAt s6, m2.cellAt s7⟩)) (first | (go_at_call 78; refine (portA _ _ _ _ _ _).mono ?_; rintro e w2 ⟨rfl, m2⟩) | (go_at_call 79; refine (portB _ _ _ _ _ _).mono ?_; rintro e w2 ⟨rfl, m2⟩))
          have m6 := (Mk.alloc wr _).trans (‹Mk0 _ _ ∧ _›).1
          clear P0 P1 K0 K1 K2 K3 K4 d0 d1 d2 d3 d4
          refine ‹∀ (a : Act) (w : World), _ → _› _ _ ?_
          go_wp2_with fail
          go_roundw
          case rel => exact ⟨rfl, k + 1, by omega, by go_num, hR.out.trans (firstIx_miss hlt (by rw [← hx.out]; exact HU.out)), hM.trans m6⟩
          case measure => simp [intOf]; omega
        · cases h4 : (x.bi == d)
          · have hu : x.uses r d = false := by simp_all [TLink.uses]
            have HU := Lib.hid hu
            clear hu
            go_wp2_with fail
            go_region_held3 (fun w' => Mk0 (wr.alloc (Obj.cells #[Value.int .i64 x.a, Value.int .i64 x.ai, Value.int .i64 x.b, Value.int .i64 x.bi, Value.int .i64 x.kind] 84)) w' ∧ w'.cell? ⟨w.heap.size + 1, 0, none⟩ = some (.int .i64 r) ∧ w'.cell? ⟨w.heap.size + 1, 1, none⟩ = some (.int .i64 d) ∧ w'.cell? ⟨wr.heap.size, 0, none⟩ = some (.int .i64 x.a) ∧ w'.cell? ⟨wr.heap.size, 1, none⟩ = some (.int .i64 x.ai) ∧ w'.cell? ⟨wr.heap.size, 2, none⟩ = some (.int .i64 x.b) ∧ w'.cell? ⟨wr.heap.size, 3, none⟩ = some (.int .i64 x.bi) ∧ w'.cell? ⟨wr.heap.size, 4, none⟩ = some (.int .i64 x.kind)) (first | exact ⟨Mk.drew1 _, P0, P1, K0, K1, K2, K3, K4⟩ | (obtain ⟨s0, s1, s2, s3, s4, s5, s6, s7⟩ := ‹Mk0 _ _ ∧ _›; exact ⟨s0.trans m2, m2.cellAt s1, m2.cellAt s2, m2.cellAt s3, m2.cellAt s4, m2.cellAt s5, m2.cellAt s6, m2.cellAt s7⟩)) (first | (go_at_call 78; refine (portA _ _ _ _ _ _).mono ?_; rintro e w2 ⟨rfl, m2⟩) | (go_at_call 79; refine (portB _ _ _ _ _ _).mono ?_; rintro e w2 ⟨rfl, m2⟩))
            have m6 := (Mk.alloc wr _).trans (‹Mk0 _ _ ∧ _›).1
            clear P0 P1 K0 K1 K2 K3 K4 d0 d1 d2 d3 d4
            refine ‹∀ (a : Act) (w : World), _ → _› _ _ ?_
            go_wp2_with fail
            go_roundw
            case rel => exact ⟨rfl, k + 1, by omega, by go_num, hR.out.trans (firstIx_miss hlt (by rw [← hx.out]; exact HU.out)), hM.trans m6⟩
            case measure => simp [intOf]; omega
          · have hu : x.uses r d = true := by simp_all [TLink.uses]
            have HU := Lib.hid hu
            clear hu
            go_wp2_with fail
            go_region_held3 (fun w' => Mk0 (wr.alloc (Obj.cells #[Value.int .i64 x.a, Value.int .i64 x.ai, Value.int .i64 x.b, Value.int .i64 x.bi, Value.int .i64 x.kind] 84)) w' ∧ w'.cell? ⟨w.heap.size + 1, 0, none⟩ = some (.int .i64 r) ∧ w'.cell? ⟨w.heap.size + 1, 1, none⟩ = some (.int .i64 d) ∧ w'.cell? ⟨wr.heap.size, 0, none⟩ = some (.int .i64 x.a) ∧ w'.cell? ⟨wr.heap.size, 1, none⟩ = some (.int .i64 x.ai) ∧ w'.cell? ⟨wr.heap.size, 2, none⟩ = some (.int .i64 x.b) ∧ w'.cell? ⟨wr.heap.size, 3, none⟩ = some (.int .i64 x.bi) ∧ w'.cell? ⟨wr.heap.size, 4, none⟩ = some (.int .i64 x.kind)) (first | exact ⟨Mk.drew1 _, P0, P1, K0, K1, K2, K3, K4⟩ | (obtain ⟨s0, s1, s2, s3, s4, s5, s6, s7⟩ := ‹Mk0 _ _ ∧ _›; exact ⟨s0.trans m2, m2.cellAt s1, m2.cellAt s2, m2.cellAt s3, m2.cellAt s4, m2.cellAt s5, m2.cellAt s6, m2.cellAt s7⟩)) (first | (go_at_call 78; refine (portA _ _ _ _ _ _).mono ?_; rintro e w2 ⟨rfl, m2⟩) | (go_at_call 79; refine (portB _ _ _ _ _ _).mono ?_; rintro e w2 ⟨rfl, m2⟩))
            have m6 := (Mk.alloc wr _).trans (‹Mk0 _ _ ∧ _›).1
            clear P0 P1 K0 K1 K2 K3 K4 d0 d1 d2 d3 d4
            refine ‹∀ (a : Act) (w : World), _ → _› _ _ ?_
            go_wp2_with fail
            go_ret
            exact ⟨retI (hR.out.trans (firstIx_hit hlt (by rw [← hx.out]; exact HU.out))).symm, hM'.trans m6⟩
      · cases h2 : (x.ai == d)
        · cases h3 : (x.b == r)
          · have hu : x.uses r d = false := by simp_all [TLink.uses]
            have HU := Lib.hid hu
            clear hu
            go_wp2_with fail
            go_region_held3 (fun w' => Mk0 (wr.alloc (Obj.cells #[Value.int .i64 x.a, Value.int .i64 x.ai, Value.int .i64 x.b, Value.int .i64 x.bi, Value.int .i64 x.kind] 84)) w' ∧ w'.cell? ⟨w.heap.size + 1, 0, none⟩ = some (.int .i64 r) ∧ w'.cell? ⟨w.heap.size + 1, 1, none⟩ = some (.int .i64 d) ∧ w'.cell? ⟨wr.heap.size, 0, none⟩ = some (.int .i64 x.a) ∧ w'.cell? ⟨wr.heap.size, 1, none⟩ = some (.int .i64 x.ai) ∧ w'.cell? ⟨wr.heap.size, 2, none⟩ = some (.int .i64 x.b) ∧ w'.cell? ⟨wr.heap.size, 3, none⟩ = some (.int .i64 x.bi) ∧ w'.cell? ⟨wr.heap.size, 4, none⟩ = some (.int .i64 x.kind)) (first | exact ⟨Mk.drew1 _, P0, P1, K0, K1, K2, K3, K4⟩ | (obtain ⟨s0, s1, s2, s3, s4, s5, s6, s7⟩ := ‹Mk0 _ _ ∧ _›; exact ⟨s0.trans m2, m2.cellAt s1, m2.cellAt s2, m2.cellAt s3, m2.cellAt s4, m2.cellAt s5, m2.cellAt s6, m2.cellAt s7⟩)) (first | (go_at_call 78; refine (portA _ _ _ _ _ _).mono ?_; rintro e w2 ⟨rfl, m2⟩) | (go_at_call 79; refine (portB _ _ _ _ _ _).mono ?_; rintro e w2 ⟨rfl, m2⟩))
            have m6 := (Mk.alloc wr _).trans (‹Mk0 _ _ ∧ _›).1
            clear P0 P1 K0 K1 K2 K3 K4 d0 d1 d2 d3 d4
            refine ‹∀ (a : Act) (w : World), _ → _› _ _ ?_
            go_wp2_with fail
            go_roundw
            case rel => exact ⟨rfl, k + 1, by omega, by go_num, hR.out.trans (firstIx_miss hlt (by rw [← hx.out]; exact HU.out)), hM.trans m6⟩
            case measure => simp [intOf]; omega
          · cases h4 : (x.bi == d)
            · have hu : x.uses r d = false := by simp_all [TLink.uses]
              have HU := Lib.hid hu
              clear hu
              go_wp2_with fail
              go_region_held3 (fun w' => Mk0 (wr.alloc (Obj.cells #[Value.int .i64 x.a, Value.int .i64 x.ai, Value.int .i64 x.b, Value.int .i64 x.bi, Value.int .i64 x.kind] 84)) w' ∧ w'.cell? ⟨w.heap.size + 1, 0, none⟩ = some (.int .i64 r) ∧ w'.cell? ⟨w.heap.size + 1, 1, none⟩ = some (.int .i64 d) ∧ w'.cell? ⟨wr.heap.size, 0, none⟩ = some (.int .i64 x.a) ∧ w'.cell? ⟨wr.heap.size, 1, none⟩ = some (.int .i64 x.ai) ∧ w'.cell? ⟨wr.heap.size, 2, none⟩ = some (.int .i64 x.b) ∧ w'.cell? ⟨wr.heap.size, 3, none⟩ = some (.int .i64 x.bi) ∧ w'.cell? ⟨wr.heap.size, 4, none⟩ = some (.int .i64 x.kind)) (first | exact ⟨Mk.drew1 _, P0, P1, K0, K1, K2, K3, K4⟩ | (obtain ⟨s0, s1, s2, s3, s4, s5, s6, s7⟩ := ‹Mk0 _ _ ∧ _›; exact ⟨s0.trans m2, m2.cellAt s1, m2.cellAt s2, m2.cellAt s3, m2.cellAt s4, m2.cellAt s5, m2.cellAt s6, m2.cellAt s7⟩)) (first | (go_at_call 78; refine (portA _ _ _ _ _ _).mono ?_; rintro e w2 ⟨rfl, m2⟩) | (go_at_call 79; refine (portB _ _ _ _ _ _).mono ?_; rintro e w2 ⟨rfl, m2⟩))
              have m6 := (Mk.alloc wr _).trans (‹Mk0 _ _ ∧ _›).1
              clear P0 P1 K0 K1 K2 K3 K4 d0 d1 d2 d3 d4
              refine ‹∀ (a : Act) (w : World), _ → _› _ _ ?_
              go_wp2_with fail
              go_roundw
              case rel => exact ⟨rfl, k + 1, by omega, by go_num, hR.out.trans (firstIx_miss hlt (by rw [← hx.out]; exact HU.out)), hM.trans m6⟩
              case measure => simp [intOf]; omega
            · have hu : x.uses r d = true := by simp_all [TLink.uses]
              have HU := Lib.hid hu
              clear hu
              go_wp2_with fail
              go_region_held3 (fun w' => Mk0 (wr.alloc (Obj.cells #[Value.int .i64 x.a, Value.int .i64 x.ai, Value.int .i64 x.b, Value.int .i64 x.bi, Value.int .i64 x.kind] 84)) w' ∧ w'.cell? ⟨w.heap.size + 1, 0, none⟩ = some (.int .i64 r) ∧ w'.cell? ⟨w.heap.size + 1, 1, none⟩ = some (.int .i64 d) ∧ w'.cell? ⟨wr.heap.size, 0, none⟩ = some (.int .i64 x.a) ∧ w'.cell? ⟨wr.heap.size, 1, none⟩ = some (.int .i64 x.ai) ∧ w'.cell? ⟨wr.heap.size, 2, none⟩ = some (.int .i64 x.b) ∧ w'.cell? ⟨wr.heap.size, 3, none⟩ = some (.int .i64 x.bi) ∧ w'.cell? ⟨wr.heap.size, 4, none⟩ = some (.int .i64 x.kind)) (first | exact ⟨Mk.drew1 _, P0, P1, K0, K1, K2, K3, K4⟩ | (obtain ⟨s0, s1, s2, s3, s4, s5, s6, s7⟩ := ‹Mk0 _ _ ∧ _›; exact ⟨s0.trans m2, m2.cellAt s1, m2.cellAt s2, m2.cellAt s3, m2.cellAt s4, m2.cellAt s5, m2.cellAt s6, m2.cellAt s7⟩)) (first | (go_at_call 78; refine (portA _ _ _ _ _ _).mono ?_; rintro e w2 ⟨rfl, m2⟩) | (go_at_call 79; refine (portB _ _ _ _ _ _).mono ?_; rintro e w2 ⟨rfl, m2⟩))
              have m6 := (Mk.alloc wr _).trans (‹Mk0 _ _ ∧ _›).1
              clear P0 P1 K0 K1 K2 K3 K4 d0 d1 d2 d3 d4
              refine ‹∀ (a : Act) (w : World), _ → _› _ _ ?_
              go_wp2_with fail
              go_ret
              exact ⟨retI (hR.out.trans (firstIx_hit hlt (by rw [← hx.out]; exact HU.out))).symm, hM'.trans m6⟩
        · have hu : x.uses r d = true := by simp_all [TLink.uses]
          have HU := Lib.hid hu
          clear hu
          go_wp2_with fail
          go_region_with (first | (go_at_call 78; refine (portA _ _ _ _ _ _).mono ?_; rintro e w2 ⟨rfl, m2⟩; obtain ⟨R0, R1, _⟩ := port_keep m2 rfl y1 p0 p1))
          all_goals (
            have m4 : Mk0 (wr.alloc (Obj.cells #[Value.int .i64 x.a, Value.int .i64 x.ai, Value.int .i64 x.b, Value.int .i64 x.bi, Value.int .i64 x.kind] 84)) w2 := ⟨m2.os, m2.tape, m2.output, m2.size, m2.block⟩
            have m6 := (Mk.alloc wr _).trans m4
            clear P0 P1 K0 K1 K2 K3 K4 d0 d1 d2 d3 d4 m2
            refine ‹∀ (a : Act) (w : World), _ → _› _ _ ?_
            go_wp2_with fail
            go_ret
            exact ⟨retI (hR.out.trans (firstIx_hit hlt (by rw [← hx.out]; exact HU.out))).symm, hM'.trans m6⟩)
    · obtain rfl : k = n1 := by omega
      go_wp2_with fail
      go_ret
      exact ⟨retI (hR.out.trans (firstIx_end _ _)).symm, hM'⟩

end Go.Proofs.YtefjbnbibmiccaaGreatDoor
