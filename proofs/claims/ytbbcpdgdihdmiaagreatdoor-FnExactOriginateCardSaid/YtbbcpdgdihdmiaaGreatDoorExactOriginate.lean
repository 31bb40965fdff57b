/- For every topology, policy and every four integers, the law on Originate returns true; no further condition. -/
import Derived.Test.YtbbcpdgdihdmiaaGreatDoorCards
import Derived.Test.YtbbcpdgdihdmiaaGreatDoorTie
import Derived.Deep.DeepHandedRow
import Derived.Lib.LaidTab
import Derived.LaidHandle
import Derived.LaidLaws
import Derived.Stop.Joined
import Derived.RowKitTokens
import Derived.Test.YtbbcpdgdihdmiaaGreatDoorRows
import Derived.WalkKit
import Derived.ProofKit
import Derived.OpenShut
import Derived.ShutString
import Derived.ChangeOld
import Derived.Below
import Derived.Test.YtbbcpdgdihdmiaaGreatDoorStruct
import Derived.Test.YtbbcpdgdihdmiaaGreatDoorOAS
import Derived.Test.YtbbcpdgdihdmiaaGreatDoorZAS
import Derived.Test.YtbbcpdgdihdmiaaGreatDoorOLink
import Derived.Test.YtbbcpdgdihdmiaaGreatDoorZLink
import Derived.Deep.RegionHeld3
import Derived.Test.YtbbcpdgdihdmiaaGreatDoorOrigI
import Derived.Test.YtbbcpdgdihdmiaaGreatDoorOrigS
import Derived.Test.YtbbcpdgdihdmiaaGreatDoorKTopology
import Derived.Test.YtbbcpdgdihdmiaaGreatDoorMkcSegment
import Derived.Test.YtbbcpdgdihdmiaaGreatDoorFg
namespace Go.Proofs.YtbbcpdgdihdmiaaGreatDoor.fnExactOriginate
open Go.ChangeShapes Go.WideShapes Go.ChangeAt Go.RowKit
open Go.ChangeMaps (open_string shut_string)
set_option linter.unusedVariables false

theorem own : ownKnob Tryz.prog.godebug = none := by kernel_rfl
theorem laidOut : laidOutB Tryz.prog = true := by kernel_rfl

theorem etG : Tryz.prog.globalNamed "errors.errorType" = some 0 := by kernel_rfl
theorem rtT : (Tryz.prog.cutTypes.find? (·.1 == "internal/reflectlite.rtype")).map (·.2) = some 161 := by kernel_rfl
theorem oneRow : ((List.range 204).filter fun t => Tryz.prog.rowNamed t [101, 114, 114, 111, 114]) = [139] := by kernel_rfl
theorem tysize : Tryz.prog.types.size = 204 := by kernel_rfl
theorem table {W : World} (h : laidMetH Tryz.prog Rows.fnExactOriginateRow.laid W) : W.cell? ⟨0, 0, none⟩ = some (.iface 161 (.agg #[.pointer (some ⟨1, 139, none⟩)])) := by
  have h2 : laidMet Tryz.prog [] W ∧ handlesMet Tryz.prog Rows.fnExactOriginateRow.laid W := h
  obtain ⟨name, u, ty, e1, e2, e3, e4, e5⟩ := h2.2 _ (List.mem_singleton.2 rfl)
  have en : name = [101, 114, 114, 111, 114] := (Option.some.inj e1).symm
  subst en
  obtain rfl := Option.some.inj (rtT.symm.trans e2)
  have hm : ty ∈ (List.range 204).filter fun t => Tryz.prog.rowNamed t [101, 114, 114, 111, 114] := List.mem_filter.2 ⟨List.mem_range.2 (by rw [← tysize]; exact e3), e4⟩
  rw [oneRow] at hm
  obtain rfl := List.mem_singleton.1 hm
  have hh : typeHandle Tryz.prog 139 = .pointer (some ⟨1, 139, none⟩) := by kernel_rfl
  rw [hh] at e5
  simpa using World.var?_cell etG e5 0

theorem LQ {n : Nat} : n ≤ n := Nat.le_refl _
theorem LR {p : Prop} : p ∨ 0 ≤ 0 := .inr (Nat.le_refl _)
set_option maxRecDepth 100000 in
set_option maxHeartbeats 4000000 in
theorem walk (a0_0 : Option Addr) (n0_0 c0_0 : Nat) (z0_0 : List TAS) (a0_1 : Option Addr) (n0_1 c0_1 : Nat) (z0_1 : List TLink) (a1_0 : Int) (a1_1 : Int) (a1_2 : Int) (a1_3 : Int) (a2 : Int) (a3 : Int) (a4 : Int) (a5 : Int) (w : World) (h0_0 : HasAS w w.heap.size a0_0 n0_0 z0_0) (m0_0 : n0_0 ≤ 9223372036854775807) (f0_0 : ∀ x ∈ z0_0, TAS.fits x) (h0_1 : HasLink w w.heap.size a0_1 n0_1 z0_1) (m0_1 : n0_1 ≤ 9223372036854775807) (f0_1 : ∀ x ∈ z0_1, TLink.fits x) (w1_0 : (Lit.int .i64 a1_0).wf = true) (w1_1 : (Lit.int .i64 a1_1).wf = true) (w1_2 : (Lit.int .i64 a1_2).wf = true) (w1_3 : (Lit.int .i64 a1_3).wf = true) (w2 : (Lit.int .i64 a2).wf = true) (w3 : (Lit.int .i64 a3).wf = true) (w4 : (Lit.int .i64 a4).wf = true) (w5 : (Lit.int .i64 a5).wf = true) (hg : w.cell? ⟨0, 0, none⟩ = some (.iface 161 (.agg #[.pointer (some ⟨1, 139, none⟩)]))) :
    Calls Tryz.prog 3 #[.agg #[.slice a0_0 n0_0 c0_0, .slice a0_1 n0_1 c0_1], .agg #[.int .i64 a1_0, .int .i64 a1_1, .int .i64 a1_2, .int .i64 a1_3], .int .i64 a2, .int .i64 a3, .int .i64 a4, .int .i64 a5] w fun e w' => e = .returned (.bool true) ∧ Below w.heap.size w w' := by
 obtain ⟨OB, hOB⟩ : ∃ b, b = orB z0_0 n0_0 z0_1 n0_1 ⟨a1_0, a1_1, a1_2, a1_3⟩ a2 a3 a4 a5 := ⟨_, rfl⟩
 have wx2 := w2
 have wx3 := w3
 have wx4 := w4
 have wx5 := w5
 by_cases hbig0 : (1048576 : Int) < (n0_0 : Int) + (n0_1 : Int)
 · go_enter Tryz.func3, Tryz.ntmps3
   go_wp2_with fail
   have M0 : Mk0 w ((w.alloc (Obj.cells #[Value.slice a0_0 n0_0 c0_0, Value.slice a0_1 n0_1 c0_1] 25)).alloc (Obj.cells #[Value.int .i64 a1_0, Value.int .i64 a1_1, Value.int .i64 a1_2, Value.int .i64 a1_3] 27)) := ((Mk.alloc w _).new _)
   have k0_0 : ((w.alloc (Obj.cells #[Value.slice a0_0 n0_0 c0_0, Value.slice a0_1 n0_1 c0_1] 25)).alloc (Obj.cells #[Value.int .i64 a1_0, Value.int .i64 a1_1, Value.int .i64 a1_2, Value.int .i64 a1_3] 27)).cell? ⟨w.heap.size, 0, none⟩ = some (.slice a0_0 n0_0 c0_0) := by simp [go_sem]
   have k0_1 : ((w.alloc (Obj.cells #[Value.slice a0_0 n0_0 c0_0, Value.slice a0_1 n0_1 c0_1] 25)).alloc (Obj.cells #[Value.int .i64 a1_0, Value.int .i64 a1_1, Value.int .i64 a1_2, Value.int .i64 a1_3] 27)).cell? ⟨w.heap.size, 1, none⟩ = some (.slice a0_1 n0_1 c0_1) := by simp [go_sem]
   have k1_0 : ((w.alloc (Obj.cells #[Value.slice a0_0 n0_0 c0_0, Value.slice a0_1 n0_1 c0_1] 25)).alloc (Obj.cells #[Value.int .i64 a1_0, Value.int .i64 a1_1, Value.int .i64 a1_2, Value.int .i64 a1_3] 27)).cell? ⟨w.heap.size + 1, 0, none⟩ = some (.int .i64 a1_0) := by simp [go_sem]
   have k1_1 : ((w.alloc (Obj.cells #[Value.slice a0_0 n0_0 c0_0, Value.slice a0_1 n0_1 c0_1] 25)).alloc (Obj.cells #[Value.int .i64 a1_0, Value.int .i64 a1_1, Value.int .i64 a1_2, Value.int .i64 a1_3] 27)).cell? ⟨w.heap.size + 1, 1, none⟩ = some (.int .i64 a1_1) := by simp [go_sem]
   have k1_2 : ((w.alloc (Obj.cells #[Value.slice a0_0 n0_0 c0_0, Value.slice a0_1 n0_1 c0_1] 25)).alloc (Obj.cells #[Value.int .i64 a1_0, Value.int .i64 a1_1, Value.int .i64 a1_2, Value.int .i64 a1_3] 27)).cell? ⟨w.heap.size + 1, 2, none⟩ = some (.int .i64 a1_2) := by simp [go_sem]
   have k1_3 : ((w.alloc (Obj.cells #[Value.slice a0_0 n0_0 c0_0, Value.slice a0_1 n0_1 c0_1] 25)).alloc (Obj.cells #[Value.int .i64 a1_0, Value.int .i64 a1_1, Value.int .i64 a1_2, Value.int .i64 a1_3] 27)).cell? ⟨w.heap.size + 1, 3, none⟩ = some (.int .i64 a1_3) := by simp [go_sem]
   refine (szTopologyB _ _ _ _ _ _ _ _ (by omega) (by omega) (by omega) m0_0 m0_1).mono ?_
   rintro e w1 ⟨rfl, m1⟩
   go_wp2_with fail
   go_ret
   exact ⟨rfl, (M0.trans m1).below0⟩
 have hn0 : (n0_0 : Int) + (n0_1 : Int) ≤ (1048576 : Int) := by omega
 clear hbig0
 go_enter Tryz.func3, Tryz.ntmps3
 go_wp2_with fail
 have M0 : Mk0 w ((w.alloc (Obj.cells #[Value.slice a0_0 n0_0 c0_0, Value.slice a0_1 n0_1 c0_1] 25)).alloc (Obj.cells #[Value.int .i64 a1_0, Value.int .i64 a1_1, Value.int .i64 a1_2, Value.int .i64 a1_3] 27)) := ((Mk.alloc w _).new _)
 have k0_0 : ((w.alloc (Obj.cells #[Value.slice a0_0 n0_0 c0_0, Value.slice a0_1 n0_1 c0_1] 25)).alloc (Obj.cells #[Value.int .i64 a1_0, Value.int .i64 a1_1, Value.int .i64 a1_2, Value.int .i64 a1_3] 27)).cell? ⟨w.heap.size, 0, none⟩ = some (.slice a0_0 n0_0 c0_0) := by simp [go_sem]
 have k0_1 : ((w.alloc (Obj.cells #[Value.slice a0_0 n0_0 c0_0, Value.slice a0_1 n0_1 c0_1] 25)).alloc (Obj.cells #[Value.int .i64 a1_0, Value.int .i64 a1_1, Value.int .i64 a1_2, Value.int .i64 a1_3] 27)).cell? ⟨w.heap.size, 1, none⟩ = some (.slice a0_1 n0_1 c0_1) := by simp [go_sem]
 have k1_0 : ((w.alloc (Obj.cells #[Value.slice a0_0 n0_0 c0_0, Value.slice a0_1 n0_1 c0_1] 25)).alloc (Obj.cells #[Value.int .i64 a1_0, Value.int .i64 a1_1, Value.int .i64 a1_2, Value.int .i64 a1_3] 27)).cell? ⟨w.heap.size + 1, 0, none⟩ = some (.int .i64 a1_0) := by simp [go_sem]
 have k1_1 : ((w.alloc (Obj.cells #[Value.slice a0_0 n0_0 c0_0, Value.slice a0_1 n0_1 c0_1] 25)).alloc (Obj.cells #[Value.int .i64 a1_0, Value.int .i64 a1_1, Value.int .i64 a1_2, Value.int .i64 a1_3] 27)).cell? ⟨w.heap.size + 1, 1, none⟩ = some (.int .i64 a1_1) := by simp [go_sem]
 have k1_2 : ((w.alloc (Obj.cells #[Value.slice a0_0 n0_0 c0_0, Value.slice a0_1 n0_1 c0_1] 25)).alloc (Obj.cells #[Value.int .i64 a1_0, Value.int .i64 a1_1, Value.int .i64 a1_2, Value.int .i64 a1_3] 27)).cell? ⟨w.heap.size + 1, 2, none⟩ = some (.int .i64 a1_2) := by simp [go_sem]
 have k1_3 : ((w.alloc (Obj.cells #[Value.slice a0_0 n0_0 c0_0, Value.slice a0_1 n0_1 c0_1] 25)).alloc (Obj.cells #[Value.int .i64 a1_0, Value.int .i64 a1_1, Value.int .i64 a1_2, Value.int .i64 a1_3] 27)).cell? ⟨w.heap.size + 1, 3, none⟩ = some (.int .i64 a1_3) := by simp [go_sem]
 refine (szTopologyC _ _ _ _ _ _ _ _ (by omega) (by omega) (by omega)).mono ?_
 rintro e w1 ⟨l1, hl1, rfl, m1⟩
 have M1 := M0.trans m1
 replace k0_0 := m1.cellAt k0_0
 replace k0_1 := m1.cellAt k0_1
 replace k1_0 := m1.cellAt k1_0
 replace k1_1 := m1.cellAt k1_1
 replace k1_2 := m1.cellAt k1_2
 replace k1_3 := m1.cellAt k1_3
 have z1 := m1.size
 simp only [World.size_alloc] at z1
 go_wp2_with fail
 have yr2_0 : w.heap.size < w1.heap.size := by omega
 have yr2_1 : w.heap.size + 1 < w1.heap.size := by omega
 have hN0_0 : n0_0 ≤ 1048576 := by omega
 have hN0_1 : n0_1 ≤ 1048576 := by omega
 refine wp_region_fg (fun (g : Bxs) w' => (Mk0 w1 w' ∧ w'.cell? ⟨w.heap.size, 0, none⟩ = some (.slice a0_0 n0_0 c0_0) ∧ w'.cell? ⟨w.heap.size, 1, none⟩ = some (.slice a0_1 n0_1 c0_1) ∧ w'.cell? ⟨w.heap.size + 1, 0, none⟩ = some (.int .i64 a1_0) ∧ w'.cell? ⟨w.heap.size + 1, 1, none⟩ = some (.int .i64 a1_1) ∧ w'.cell? ⟨w.heap.size + 1, 2, none⟩ = some (.int .i64 a1_2) ∧ w'.cell? ⟨w.heap.size + 1, 3, none⟩ = some (.int .i64 a1_3)) ∧ BxS w1.heap.size g w') (fgF [fun g v w => v = .agg #[.slice a0_0 n0_0 c0_0, .slice a0_1 n0_1 c0_1], fun g v w => ∃ b0_0 b0_1, v = .agg #[.slice (some ⟨b0_0, 0, none⟩) n0_0 n0_0, .slice (some ⟨b0_1, 0, none⟩) n0_1 n0_1] ∧ HasAS w w.heap.size (some ⟨b0_0, 0, none⟩) n0_0 z0_0 ∧ HasLink w w.heap.size (some ⟨b0_1, 0, none⟩) n0_1 z0_1, fun g v w => v = .agg #[.int .i64 a1_0, .int .i64 a1_1, .int .i64 a1_2, .int .i64 a1_3], fun g v w => v = .agg #[.int .i64 a1_0, .int .i64 a1_1, .int .i64 a1_2, .int .i64 a1_3], fun g v w => v = .int .i64 a2, fun g v w => v = .int .i64 a3, fun g v w => v = .int .i64 a4, fun g v w => v = .int .i64 a5, fun g v w => ∃ A N C lo hi, v = .tuple #[.agg #[.int .i64 (orT OB a4), .int .i64 (orT OB a5), .slice A N C], .bool OB] ∧ ((A = none → C = 0) ∧ N ≤ C) ∧ w1.heap.size ≤ lo ∧ lo ≤ hi ∧ hi ≤ w.heap.size ∧ OwnHop w lo hi A N (growR z0_0 ⟨a1_0, a1_1, a1_2, a1_3⟩ a4 a5 [] 0 a2 0 a3 OB) ∧ BxA g lo hi, fun g v w => ∃ A N C lo hi, v = .tuple #[.agg #[.int .i64 (orT OB a4), .int .i64 (orT OB a5), .slice A N C], .bool OB] ∧ ((A = none → C = 0) ∧ N ≤ C) ∧ w1.heap.size ≤ lo ∧ lo ≤ hi ∧ hi ≤ w.heap.size ∧ OwnHop w lo hi A N (growR z0_0 ⟨a1_0, a1_1, a1_2, a1_3⟩ a4 a5 [] 0 a2 0 a3 OB) ∧ BxA g lo hi, fun g v w => ∃ A N C lo hi, v = .agg #[.int .i64 (orT OB a4), .int .i64 (orT OB a5), .slice A N C] ∧ ((A = none → C = 0) ∧ N ≤ C) ∧ w1.heap.size ≤ lo ∧ lo ≤ hi ∧ hi ≤ w.heap.size ∧ OwnHop w lo hi A N (growR z0_0 ⟨a1_0, a1_1, a1_2, a1_3⟩ a4 a5 [] 0 a2 0 a3 OB) ∧ BxA g lo hi, fun g v w => v = .bool OB, fun g v w => BxZ g 12 [.int .i64 0, .int .i64 0, .slice none 0 0] v w]) BxX (fun _ _ => False) 11 13 (by kernel_rfl) (by kernel_rfl) (by decide) (by decide) (by kernel_rfl) (fun _ => by kernel_rfl) (fgM_mono ⟨fun g g' v w w' h x => h, fun g g' v w w' h x => (by obtain ⟨b0_0, b0_1, h1, r0_0, r0_1⟩ := h; exact ⟨_, _, h1, (r0_0.mk x.far LQ LR).mono x.far.size, (r0_1.mk x.far LQ LR).mono x.far.size⟩), fun g g' v w w' h x => h, fun g g' v w w' h x => h, fun g g' v w w' h x => h, fun g g' v w w' h x => h, fun g g' v w w' h x => h, fun g g' v w w' h x => h, fun g g' v w w' h x => (by obtain ⟨A, N, C, lo, hi, h1, h2, h3, h4, h5, h6, h7⟩ := h; exact ⟨A, N, C, lo, hi, h1, h2, h3, h4, Nat.le_trans h5 x.far.size, h6.mk x.far h5 (.inr LR), h7.step x h5⟩), fun g g' v w w' h x => (by obtain ⟨A, N, C, lo, hi, h1, h2, h3, h4, h5, h6, h7⟩ := h; exact ⟨A, N, C, lo, hi, h1, h2, h3, h4, Nat.le_trans h5 x.far.size, h6.mk x.far h5 (.inr LR), h7.step x h5⟩), fun g g' v w w' h x => (by obtain ⟨A, N, C, lo, hi, h1, h2, h3, h4, h5, h6, h7⟩ := h; exact ⟨A, N, C, lo, hi, h1, h2, h3, h4, Nat.le_trans h5 x.far.size, h6.mk x.far h5 (.inr LR), h7.step x h5⟩), fun g g' v w w' h x => h, fun g g' v w w' h x => h.step x, trivial⟩) ⟨⟨Mk.drew1 _, k0_0, k0_1, k1_0, k1_1, k1_2, k1_3⟩, BxS.none_ _ _⟩ ?_
 change WkG _ _ _ _ _ _ 11 13 13 0 _
 refine WkG.value (m := 12) (k := 0) (by decide) rfl rfl (of_decide_eq_true (by rfl)) rfl (fun g w hS hF => ?_) (fun v0 => ?_)
 · obtain ⟨⟨s0, s1, s2, s3, s4, s5, s6⟩, hB⟩ := hS
   exact ⟨.agg #[.slice a0_0 n0_0 c0_0, .slice a0_1 n0_1 c0_1], w, g, (by go_simp; try with_reducible rfl), ⟨⟨s0, s1, s2, s3, s4, s5, s6⟩, hB⟩, BxX.same (Mk.refl _ _ _), rfl⟩
 try simp only [Act.put, List.getElem_toArray, List.getElem_cons_zero, List.setIfInBounds_toArray, List.set_cons_zero, List.set_cons_succ]
 refine WkG.call (m := 11) (k := 1) (by decide) rfl rfl (of_decide_eq_true (by rfl)) rfl (fun g w hS hF => ?_) (fun v1 => ?_)
 · obtain ⟨⟨s0, s1, s2, s3, s4, s5, s6⟩, hB⟩ := hS
   have f0 : v0 = .agg #[.slice a0_0 n0_0 c0_0, .slice a0_1 n0_1 c0_1] := hF 0 (by rfl)
   obtain rfl := f0
   refine ⟨_, _, (by go_simp; first | done | exact ⟨rfl, rfl⟩ | with_reducible rfl), ?_⟩
   refine (toTopologyC a0_0 n0_0 c0_0 z0_0 a0_1 n0_1 c0_1 z0_1 _ w (h0_0.mk (M1.trans s0) LQ LR) (h0_1.mk (M1.trans s0) LQ LR) (M1.trans s0).size hN0_0 hN0_1).mono ?_
   rintro e w' ⟨b0_0, b0_1, d0, rfl, o0, o1, g0, g1, mm⟩
   exact ⟨_, g, rfl, ⟨⟨s0.trans mm, mm.cellAt s1, mm.cellAt s2, mm.cellAt s3, mm.cellAt s4, mm.cellAt s5, mm.cellAt s6⟩, hB.mk0 mm⟩, BxX.same mm, ⟨_, _, rfl, o0.has.mono g1, o1.has.mono LQ⟩⟩
 try simp only [Act.put, List.getElem_toArray, List.getElem_cons_succ, List.getElem_cons_zero, List.setIfInBounds_toArray, List.set_cons_zero, List.set_cons_succ]
 refine WkG.value (m := 10) (k := 2) (by decide) rfl rfl (of_decide_eq_true (by rfl)) rfl (fun g w hS hF => ?_) (fun v2 => ?_)
 · obtain ⟨⟨s0, s1, s2, s3, s4, s5, s6⟩, hB⟩ := hS
   exact ⟨.agg #[.int .i64 a1_0, .int .i64 a1_1, .int .i64 a1_2, .int .i64 a1_3], w, g, (by go_simp; try with_reducible rfl), ⟨⟨s0, s1, s2, s3, s4, s5, s6⟩, hB⟩, BxX.same (Mk.refl _ _ _), rfl⟩
 try simp only [Act.put, List.getElem_toArray, List.getElem_cons_succ, List.getElem_cons_zero, List.setIfInBounds_toArray, List.set_cons_zero, List.set_cons_succ]
 refine WkG.call (m := 9) (k := 3) (by decide) rfl rfl (of_decide_eq_true (by rfl)) rfl (fun g w hS hF => ?_) (fun v3 => ?_)
 · obtain ⟨⟨s0, s1, s2, s3, s4, s5, s6⟩, hB⟩ := hS
   have f2 : v2 = .agg #[.int .i64 a1_0, .int .i64 a1_1, .int .i64 a1_2, .int .i64 a1_3] := hF 2 (by rfl)
   obtain rfl := f2
   refine ⟨_, _, (by go_simp; first | done | exact ⟨rfl, rfl⟩ | with_reducible rfl), ?_⟩
   refine (toPolicyI a1_0 a1_1 a1_2 a1_3 w).mono ?_
   rintro e w' ⟨rfl, mm⟩
   exact ⟨_, g, rfl, ⟨⟨s0.trans mm, mm.cellAt s1, mm.cellAt s2, mm.cellAt s3, mm.cellAt s4, mm.cellAt s5, mm.cellAt s6⟩, hB.mk0 mm⟩, BxX.same mm, rfl⟩
 try simp only [Act.put, List.getElem_toArray, List.getElem_cons_succ, List.getElem_cons_zero, List.setIfInBounds_toArray, List.set_cons_zero, List.set_cons_succ]
 refine WkG.value (m := 8) (k := 4) (by decide) rfl rfl (of_decide_eq_true (by rfl)) rfl (fun g w hS hF => ?_) (fun v4 => ?_)
 · obtain ⟨⟨s0, s1, s2, s3, s4, s5, s6⟩, hB⟩ := hS
   exact ⟨.int .i64 a2, w, g, (by go_simp; try with_reducible rfl), ⟨⟨s0, s1, s2, s3, s4, s5, s6⟩, hB⟩, BxX.same (Mk.refl _ _ _), rfl⟩
 try simp only [Act.put, List.getElem_toArray, List.getElem_cons_succ, List.getElem_cons_zero, List.setIfInBounds_toArray, List.set_cons_zero, List.set_cons_succ]
 refine WkG.value (m := 7) (k := 5) (by decide) rfl rfl (of_decide_eq_true (by rfl)) rfl (fun g w hS hF => ?_) (fun v5 => ?_)
 · obtain ⟨⟨s0, s1, s2, s3, s4, s5, s6⟩, hB⟩ := hS
   exact ⟨.int .i64 a3, w, g, (by go_simp; try with_reducible rfl), ⟨⟨s0, s1, s2, s3, s4, s5, s6⟩, hB⟩, BxX.same (Mk.refl _ _ _), rfl⟩
 try simp only [Act.put, List.getElem_toArray, List.getElem_cons_succ, List.getElem_cons_zero, List.setIfInBounds_toArray, List.set_cons_zero, List.set_cons_succ]
 refine WkG.value (m := 6) (k := 6) (by decide) rfl rfl (of_decide_eq_true (by rfl)) rfl (fun g w hS hF => ?_) (fun v6 => ?_)
 · obtain ⟨⟨s0, s1, s2, s3, s4, s5, s6⟩, hB⟩ := hS
   exact ⟨.int .i64 a4, w, g, (by go_simp; try with_reducible rfl), ⟨⟨s0, s1, s2, s3, s4, s5, s6⟩, hB⟩, BxX.same (Mk.refl _ _ _), rfl⟩
 try simp only [Act.put, List.getElem_toArray, List.getElem_cons_succ, List.getElem_cons_zero, List.setIfInBounds_toArray, List.set_cons_zero, List.set_cons_succ]
 refine WkG.value (m := 5) (k := 7) (by decide) rfl rfl (of_decide_eq_true (by rfl)) rfl (fun g w hS hF => ?_) (fun v7 => ?_)
 · obtain ⟨⟨s0, s1, s2, s3, s4, s5, s6⟩, hB⟩ := hS
   exact ⟨.int .i64 a5, w, g, (by go_simp; try with_reducible rfl), ⟨⟨s0, s1, s2, s3, s4, s5, s6⟩, hB⟩, BxX.same (Mk.refl _ _ _), rfl⟩
 try simp only [Act.put, List.getElem_toArray, List.getElem_cons_succ, List.getElem_cons_zero, List.setIfInBounds_toArray, List.set_cons_zero, List.set_cons_succ]
 refine WkG.call (m := 4) (k := 8) (by decide) rfl rfl (of_decide_eq_true (by rfl)) rfl (fun g w hS hF => ?_) (fun v8 => ?_)
 · obtain ⟨⟨s0, s1, s2, s3, s4, s5, s6⟩, hB⟩ := hS
   have f1 : ∃ b0_0 b0_1, v1 = .agg #[.slice (some ⟨b0_0, 0, none⟩) n0_0 n0_0, .slice (some ⟨b0_1, 0, none⟩) n0_1 n0_1] ∧ HasAS w w.heap.size (some ⟨b0_0, 0, none⟩) n0_0 z0_0 ∧ HasLink w w.heap.size (some ⟨b0_1, 0, none⟩) n0_1 z0_1 := hF 1 (by rfl)
   obtain ⟨b0_0, b0_1, rfl, r0_0, r0_1⟩ := f1
   have f3 : v3 = .agg #[.int .i64 a1_0, .int .i64 a1_1, .int .i64 a1_2, .int .i64 a1_3] := hF 3 (by rfl)
   obtain rfl := f3
   have f4 : v4 = .int .i64 a2 := hF 4 (by rfl)
   obtain rfl := f4
   have f5 : v5 = .int .i64 a3 := hF 5 (by rfl)
   obtain rfl := f5
   have f6 : v6 = .int .i64 a4 := hF 6 (by rfl)
   obtain rfl := f6
   have f7 : v7 = .int .i64 a5 := hF 7 (by rfl)
   obtain rfl := f7
   refine ⟨_, _, (by go_simp; first | done | exact ⟨rfl, rfl⟩ | with_reducible rfl), ?_⟩
   have KK := specOriginate _ _ _ _ _ _ _ z0_0 z0_1 ⟨a1_0, a1_1, a1_2, a1_3⟩ a2 a3 a4 a5 w r0_0 r0_1 LQ hN0_0 hN0_1 f0_0 wx4 wx5 wx2 wx3
   rw [← hOB] at KK
   refine KK.mono ?_
   rintro e w' ⟨A, N, C, rfl, hc, ow, mm⟩
   exact ⟨_, g, rfl, ⟨⟨s0.trans mm, mm.cellAt s1, mm.cellAt s2, mm.cellAt s3, mm.cellAt s4, mm.cellAt s5, mm.cellAt s6⟩, hB.mk0 mm⟩, BxX.same mm, ⟨A, N, C, w.heap.size, w'.heap.size, rfl, hc, s0.size, mm.size, Nat.le_refl _, ow, BxA.of hB⟩⟩
 try simp only [Act.put, List.getElem_toArray, List.getElem_cons_succ, List.getElem_cons_zero, List.setIfInBounds_toArray, List.set_cons_zero, List.set_cons_succ]
 refine WkG.value (m := 3) (k := 9) (by decide) rfl rfl (of_decide_eq_true (by rfl)) rfl (fun g w hS hF => ?_) (fun v9 => ?_)
 · obtain ⟨⟨s0, s1, s2, s3, s4, s5, s6⟩, hB⟩ := hS
   have f8 : ∃ A N C lo hi, v8 = .tuple #[.agg #[.int .i64 (orT OB a4), .int .i64 (orT OB a5), .slice A N C], .bool OB] ∧ ((A = none → C = 0) ∧ N ≤ C) ∧ w1.heap.size ≤ lo ∧ lo ≤ hi ∧ hi ≤ w.heap.size ∧ OwnHop w lo hi A N (growR z0_0 ⟨a1_0, a1_1, a1_2, a1_3⟩ a4 a5 [] 0 a2 0 a3 OB) ∧ BxA g lo hi := hF 8 (by rfl)
   obtain ⟨A, N, C, lo, hi, rfl, h2, h3, h4, h5, h6, h7⟩ := f8
   exact ⟨.tuple #[.agg #[.int .i64 (orT OB a4), .int .i64 (orT OB a5), .slice A N C], .bool OB], w, g, (by go_simp; try with_reducible rfl), ⟨⟨s0, s1, s2, s3, s4, s5, s6⟩, hB⟩, BxX.same (Mk.refl _ _ _), ⟨A, N, C, lo, hi, rfl, h2, h3, h4, h5, h6, h7⟩⟩
 try simp only [Act.put, List.getElem_toArray, List.getElem_cons_succ, List.getElem_cons_zero, List.setIfInBounds_toArray, List.set_cons_zero, List.set_cons_succ]
 refine WkG.value (m := 2) (k := 10) (by decide) rfl rfl (of_decide_eq_true (by rfl)) rfl (fun g w hS hF => ?_) (fun v10 => ?_)
 · obtain ⟨⟨s0, s1, s2, s3, s4, s5, s6⟩, hB⟩ := hS
   have f9 : ∃ A N C lo hi, v9 = .tuple #[.agg #[.int .i64 (orT OB a4), .int .i64 (orT OB a5), .slice A N C], .bool OB] ∧ ((A = none → C = 0) ∧ N ≤ C) ∧ w1.heap.size ≤ lo ∧ lo ≤ hi ∧ hi ≤ w.heap.size ∧ OwnHop w lo hi A N (growR z0_0 ⟨a1_0, a1_1, a1_2, a1_3⟩ a4 a5 [] 0 a2 0 a3 OB) ∧ BxA g lo hi := hF 9 (by rfl)
   obtain ⟨A, N, C, lo, hi, rfl, h2, h3, h4, h5, h6, h7⟩ := f9
   exact ⟨.agg #[.int .i64 (orT OB a4), .int .i64 (orT OB a5), .slice A N C], w, g, (by go_simp; try with_reducible rfl), ⟨⟨s0, s1, s2, s3, s4, s5, s6⟩, hB⟩, BxX.same (Mk.refl _ _ _), ⟨A, N, C, lo, hi, rfl, h2, h3, h4, h5, h6, h7⟩⟩
 try simp only [Act.put, List.getElem_toArray, List.getElem_cons_succ, List.getElem_cons_zero, List.setIfInBounds_toArray, List.set_cons_zero, List.set_cons_succ]
 refine WkG.pure (m := 1) (k := 11) (fun _ _ => BxX.same (Mk.refl _ _ _)) rfl rfl (of_decide_eq_true (by rfl)) rfl (fun g w hS hF => ?_) (fun v11 => ?_)
 · obtain ⟨⟨s0, s1, s2, s3, s4, s5, s6⟩, hB⟩ := hS
   have f9 : ∃ A N C lo hi, v9 = .tuple #[.agg #[.int .i64 (orT OB a4), .int .i64 (orT OB a5), .slice A N C], .bool OB] ∧ ((A = none → C = 0) ∧ N ≤ C) ∧ w1.heap.size ≤ lo ∧ lo ≤ hi ∧ hi ≤ w.heap.size ∧ OwnHop w lo hi A N (growR z0_0 ⟨a1_0, a1_1, a1_2, a1_3⟩ a4 a5 [] 0 a2 0 a3 OB) ∧ BxA g lo hi := hF 9 (by rfl)
   obtain ⟨A, N, C, lo, hi, rfl, h2, h3, h4, h5, h6, h7⟩ := f9
   exact ⟨.bool OB, (fun w' => (by go_simp; try with_reducible rfl)), rfl⟩
 try simp only [Act.put, List.getElem_toArray, List.getElem_cons_succ, List.getElem_cons_zero, List.setIfInBounds_toArray, List.set_cons_zero, List.set_cons_succ]
 refine WkG.value (m := 0) (k := 12) (by decide) rfl rfl (of_decide_eq_true (by rfl)) rfl (fun g w hS hF => ?_) (fun v12 => ?_)
 · obtain ⟨⟨s0, s1, s2, s3, s4, s5, s6⟩, hB⟩ := hS
   have mm := Mk.alloc w (Obj.cells #[.int .i64 0, .int .i64 0, .slice none 0 0] 31)
   exact ⟨.pointer (some ⟨w.heap.size, 0, none⟩), (w.alloc (Obj.cells #[.int .i64 0, .int .i64 0, .slice none 0 0] 31)), bxP g 12 w.heap.size, (by go_simp; try with_reducible rfl), ⟨⟨s0.trans mm, mm.cellAt s1, mm.cellAt s2, mm.cellAt s3, mm.cellAt s4, mm.cellAt s5, mm.cellAt s6⟩, hB.put s0.size 12 (Obj.cells #[.int .i64 0, .int .i64 0, .slice none 0 0] 31)⟩, BxX.put 12 (Obj.cells #[.int .i64 0, .int .i64 0, .slice none 0 0] 31), BxZ.new g 12 [.int .i64 0, .int .i64 0, .slice none 0 0] 31 w⟩
 try simp only [Act.put, List.getElem_toArray, List.getElem_cons_succ, List.getElem_cons_zero, List.setIfInBounds_toArray, List.set_cons_zero, List.set_cons_succ]
 refine WkG.done fun gE wq2 hE hF => ?_
 clear k0_0 k0_1 k1_0 k1_1 k1_2 k1_3
 obtain ⟨⟨m2, k0_0, k0_1, k1_0, k1_1, k1_2, k1_3⟩, hBE⟩ := hE
 change wpAny _ _ _ _ 2 _ _ _
 have f10 : ∃ A N C lo hi, v10 = .agg #[.int .i64 (orT OB a4), .int .i64 (orT OB a5), .slice A N C] ∧ ((A = none → C = 0) ∧ N ≤ C) ∧ w1.heap.size ≤ lo ∧ lo ≤ hi ∧ hi ≤ wq2.heap.size ∧ OwnHop wq2 lo hi A N (growR z0_0 ⟨a1_0, a1_1, a1_2, a1_3⟩ a4 a5 [] 0 a2 0 a3 OB) ∧ BxA gE lo hi := hF 10 (by decide)
 obtain ⟨Aw0, Nw0, Cw0, low0, hiw0, rfl, hcw0, hlw0, hmw0, hhw0, ow0, hAw0⟩ := f10
 have f11 : v11 = .bool OB := hF 11 (by decide)
 obtain rfl := f11
 have f12 : BxZ gE 12 [.int .i64 0, .int .i64 0, .slice none 0 0] v12 wq2 := hF 12 (by decide)
 obtain ⟨Bw0, hgw0, rfl, hltw0, hzw0, hfw0⟩ := f12
 have hsw0 := hAw0 12 Bw0 hgw0
 have hbw00 := hBE.lo 12 Bw0 hgw0
 have xw0_0 := hzw0 0 _ rfl
 have xw0_1 := hzw0 1 _ rfl
 have xw0_2 := hzw0 2 _ rfl
 clear hF
 refine wpAny_ready (rs := [13]) (by kernel_rfl) (by simp) ?_
 refine (AllReady.cons rfl (fun K hK => ?_) AllReady.nil)
 go_simp
 refine hK _ _ ?_
 clear hK K
 try simp only [Act.put, List.getElem_toArray, List.getElem_cons_succ, List.getElem_cons_zero, List.setIfInBounds_toArray, List.set_cons_zero, List.set_cons_succ]
 refine wpAny_ready (rs := [14]) (by kernel_rfl) (by simp) ?_
 refine (AllReady.cons rfl (fun K hK => ?_) AllReady.nil)
 go_simp
 refine hK _ _ ?_
 clear hK K
 try simp only [Act.put, List.getElem_toArray, List.getElem_cons_succ, List.getElem_cons_zero, List.setIfInBounds_toArray, List.set_cons_zero, List.set_cons_succ]
 have yn0 : Bw0 ≠ w.heap.size := by omega
 have yn1 : Bw0 ≠ w.heap.size + 1 := by omega
 replace xw0_0 := World.cell?_setCell_same _ _ (.int .i64 (orT OB a4)) xw0_0
 replace xw0_1 := cell_set xw0_1 ⟨Bw0, 0, none⟩ (.int .i64 (orT OB a4)) (.inr (by simp))
 replace xw0_2 := cell_set xw0_2 ⟨Bw0, 0, none⟩ (.int .i64 (orT OB a4)) (.inr (by simp))
 replace k0_0 := cell_set k0_0 ⟨Bw0, 0, none⟩ (.int .i64 (orT OB a4)) (.inl yn0)
 replace k0_1 := cell_set k0_1 ⟨Bw0, 0, none⟩ (.int .i64 (orT OB a4)) (.inl yn0)
 replace k1_0 := cell_set k1_0 ⟨Bw0, 0, none⟩ (.int .i64 (orT OB a4)) (.inl yn1)
 replace k1_1 := cell_set k1_1 ⟨Bw0, 0, none⟩ (.int .i64 (orT OB a4)) (.inl yn1)
 replace k1_2 := cell_set k1_2 ⟨Bw0, 0, none⟩ (.int .i64 (orT OB a4)) (.inl yn1)
 replace k1_3 := cell_set k1_3 ⟨Bw0, 0, none⟩ (.int .i64 (orT OB a4)) (.inl yn1)
 replace ow0 := ow0.set ⟨Bw0, 0, none⟩ (.int .i64 (orT OB a4)) hsw0
 replace m2 := m2.put ⟨Bw0, 0, none⟩ (.int .i64 (orT OB a4)) hbw00
 replace xw0_0 := cell_set xw0_0 ⟨Bw0, 1, none⟩ (.int .i64 (orT OB a5)) (.inr (by simp))
 replace xw0_1 := World.cell?_setCell_same _ _ (.int .i64 (orT OB a5)) xw0_1
 replace xw0_2 := cell_set xw0_2 ⟨Bw0, 1, none⟩ (.int .i64 (orT OB a5)) (.inr (by simp))
 replace k0_0 := cell_set k0_0 ⟨Bw0, 1, none⟩ (.int .i64 (orT OB a5)) (.inl yn0)
 replace k0_1 := cell_set k0_1 ⟨Bw0, 1, none⟩ (.int .i64 (orT OB a5)) (.inl yn0)
 replace k1_0 := cell_set k1_0 ⟨Bw0, 1, none⟩ (.int .i64 (orT OB a5)) (.inl yn1)
 replace k1_1 := cell_set k1_1 ⟨Bw0, 1, none⟩ (.int .i64 (orT OB a5)) (.inl yn1)
 replace k1_2 := cell_set k1_2 ⟨Bw0, 1, none⟩ (.int .i64 (orT OB a5)) (.inl yn1)
 replace k1_3 := cell_set k1_3 ⟨Bw0, 1, none⟩ (.int .i64 (orT OB a5)) (.inl yn1)
 replace ow0 := ow0.set ⟨Bw0, 1, none⟩ (.int .i64 (orT OB a5)) hsw0
 replace m2 := m2.put ⟨Bw0, 1, none⟩ (.int .i64 (orT OB a5)) hbw00
 replace xw0_0 := cell_set xw0_0 ⟨Bw0, 2, none⟩ (.slice Aw0 Nw0 Cw0) (.inr (by simp))
 replace xw0_1 := cell_set xw0_1 ⟨Bw0, 2, none⟩ (.slice Aw0 Nw0 Cw0) (.inr (by simp))
 replace xw0_2 := World.cell?_setCell_same _ _ (.slice Aw0 Nw0 Cw0) xw0_2
 replace k0_0 := cell_set k0_0 ⟨Bw0, 2, none⟩ (.slice Aw0 Nw0 Cw0) (.inl yn0)
 replace k0_1 := cell_set k0_1 ⟨Bw0, 2, none⟩ (.slice Aw0 Nw0 Cw0) (.inl yn0)
 replace k1_0 := cell_set k1_0 ⟨Bw0, 2, none⟩ (.slice Aw0 Nw0 Cw0) (.inl yn1)
 replace k1_1 := cell_set k1_1 ⟨Bw0, 2, none⟩ (.slice Aw0 Nw0 Cw0) (.inl yn1)
 replace k1_2 := cell_set k1_2 ⟨Bw0, 2, none⟩ (.slice Aw0 Nw0 Cw0) (.inl yn1)
 replace k1_3 := cell_set k1_3 ⟨Bw0, 2, none⟩ (.slice Aw0 Nw0 Cw0) (.inl yn1)
 replace ow0 := ow0.set ⟨Bw0, 2, none⟩ (.slice Aw0 Nw0 Cw0) hsw0
 replace m2 := m2.put ⟨Bw0, 2, none⟩ (.slice Aw0 Nw0 Cw0) hbw00
 have zq : (((wq2.setCell ⟨Bw0, 0, none⟩ (.int .i64 (orT OB a4))).setCell ⟨Bw0, 1, none⟩ (.int .i64 (orT OB a5))).setCell ⟨Bw0, 2, none⟩ (.slice Aw0 Nw0 Cw0)).heap.size = wq2.heap.size := by simp only [World.size_set]
 clear hzw0 hfw0 hAw0 hgw0 hBE
 generalize (((wq2.setCell ⟨Bw0, 0, none⟩ (.int .i64 (orT OB a4))).setCell ⟨Bw0, 1, none⟩ (.int .i64 (orT OB a5))).setCell ⟨Bw0, 2, none⟩ (.slice Aw0 Nw0 Cw0)) = w2 at *
 rw [← zq] at hhw0 hltw0
 clear zq
 clear yn0 yn1
 refine wpAny_doneN (by kernel_rfl) ?_
 refine ‹∀ (a : Act) (w : World), _ → _› _ _ ?_
 clear hN0_0 hN0_1 yr2_0 yr2_1
 have hbw0 : Nw0 ≤ 1048576 := (by have := ow0.1; revert this; cases OB <;> (intro hq; subst hq; simp [growR]))
 have M2 := M1.trans m2
 have z2 := m2.size
 go_wp2_with fail
 refine (toTopologyC _ _ _ _ _ _ _ _ w.heap.size _ (h0_0.mk M2 LQ LR) (h0_1.mk M2 LQ LR) (by omega) (by omega) (by omega)).mono ?_
 rintro e w3 ⟨b1, b2, d3, rfl, o4, o5, g6, g7, m3⟩
 have M3 := M2.trans m3
 have z3 := m3.size
 replace k0_0 := m3.cellAt k0_0
 replace k0_1 := m3.cellAt k0_1
 replace k1_0 := m3.cellAt k1_0
 replace k1_1 := m3.cellAt k1_1
 replace k1_2 := m3.cellAt k1_2
 replace k1_3 := m3.cellAt k1_3
 replace xw0_0 := m3.cellAt xw0_0
 replace xw0_1 := m3.cellAt xw0_1
 replace xw0_2 := m3.cellAt xw0_2
 replace ow0 := ow0.mk m3 (by omega) (.inr LR)
 have h8 := o4.has.mono (B' := w3.heap.size) (by omega)
 have h9 := o5.has.mono (B' := w3.heap.size) (by omega)
 have yb10 : w.heap.size < w3.heap.size := by omega
 have yb11 : w.heap.size + 1 < w3.heap.size := by omega
 have yb12 : Bw0 < w3.heap.size := by omega
 go_wp2_with fail
 have xx0_0 : (w3.alloc (Obj.cells #[Value.slice (some ⟨b1, 0, none⟩) n0_0 n0_0, Value.slice (some ⟨b2, 0, none⟩) n0_1 n0_1] 37)).cell? ⟨w3.heap.size, 0, none⟩ = some (.slice (some ⟨b1, 0, none⟩) n0_0 n0_0) := by rw [World.cell?_alloc_at _ _ _ _ rfl]; rfl
 have xx0_1 : (w3.alloc (Obj.cells #[Value.slice (some ⟨b1, 0, none⟩) n0_0 n0_0, Value.slice (some ⟨b2, 0, none⟩) n0_1 n0_1] 37)).cell? ⟨w3.heap.size, 1, none⟩ = some (.slice (some ⟨b2, 0, none⟩) n0_1 n0_1) := by rw [World.cell?_alloc_at _ _ _ _ rfl]; rfl
 have m4 := Mk.alloc w3 (Obj.cells #[Value.slice (some ⟨b1, 0, none⟩) n0_0 n0_0, Value.slice (some ⟨b2, 0, none⟩) n0_1 n0_1] 37)
 replace k0_0 := m4.cellAt k0_0
 replace k0_1 := m4.cellAt k0_1
 replace k1_0 := m4.cellAt k1_0
 replace k1_1 := m4.cellAt k1_1
 replace k1_2 := m4.cellAt k1_2
 replace k1_3 := m4.cellAt k1_3
 replace xw0_0 := m4.cellAt xw0_0
 replace xw0_1 := m4.cellAt xw0_1
 replace xw0_2 := m4.cellAt xw0_2
 replace h8 := h8.mk m4 (by omega) LR
 replace h9 := h9.mk m4 (by omega) LR
 replace o4 := o4.mk m4 (by omega) (.inr LR)
 replace o5 := o5.mk m4 (by omega) (.inr LR)
 replace ow0 := ow0.mk m4 (by omega) (.inr LR)
 have M4 := M3.trans m4
 have z4 := m4.size
 have zz4 : w3.heap.size < (w3.alloc (Obj.cells #[Value.slice (some ⟨b1, 0, none⟩) n0_0 n0_0, Value.slice (some ⟨b2, 0, none⟩) n0_1 n0_1] 37)).heap.size := by rw [World.size_alloc]; omega
 generalize (w3.alloc (Obj.cells #[Value.slice (some ⟨b1, 0, none⟩) n0_0 n0_0, Value.slice (some ⟨b2, 0, none⟩) n0_1 n0_1] 37)) = w4 at *
 have yr5_0 : w.heap.size < w4.heap.size := by omega
 have yr5_1 : w.heap.size + 1 < w4.heap.size := by omega
 have yr5_2 : Bw0 < w4.heap.size := by omega
 have yr5_3 : w3.heap.size < w4.heap.size := by omega
 have e13 : ∀ w', Mk0 w4 w' → HasAS w' w'.heap.size (some ⟨b1, 0, none⟩) n0_0 z0_0 := fun w' m => (h8.mk m (by omega) LR).mono (Nat.le_trans (by omega) m.size)
 have e14 : ∀ w', Mk0 w4 w' → HasLink w' w'.heap.size (some ⟨b2, 0, none⟩) n0_1 z0_1 := fun w' m => (h9.mk m (by omega) LR).mono (Nat.le_trans (by omega) m.size)
 have hN0_0 : n0_0 ≤ 1048576 := by omega
 have hN0_1 : n0_1 ≤ 1048576 := by omega
 refine wp_region_fg (fun (g : Bxs) w' => (Mk0 w4 w' ∧ w'.cell? ⟨w.heap.size, 0, none⟩ = some (.slice a0_0 n0_0 c0_0) ∧ w'.cell? ⟨w.heap.size, 1, none⟩ = some (.slice a0_1 n0_1 c0_1) ∧ w'.cell? ⟨w.heap.size + 1, 0, none⟩ = some (.int .i64 a1_0) ∧ w'.cell? ⟨w.heap.size + 1, 1, none⟩ = some (.int .i64 a1_1) ∧ w'.cell? ⟨w.heap.size + 1, 2, none⟩ = some (.int .i64 a1_2) ∧ w'.cell? ⟨w.heap.size + 1, 3, none⟩ = some (.int .i64 a1_3) ∧ w'.cell? ⟨Bw0, 0, none⟩ = some (.int .i64 (orT OB a4)) ∧ w'.cell? ⟨Bw0, 1, none⟩ = some (.int .i64 (orT OB a5)) ∧ w'.cell? ⟨Bw0, 2, none⟩ = some (.slice Aw0 Nw0 Cw0) ∧ w'.cell? ⟨w3.heap.size, 0, none⟩ = some (.slice (some ⟨b1, 0, none⟩) n0_0 n0_0) ∧ w'.cell? ⟨w3.heap.size, 1, none⟩ = some (.slice (some ⟨b2, 0, none⟩) n0_1 n0_1)) ∧ BxS w4.heap.size g w') (fgF [fun g v w => v = .agg #[.slice (some ⟨b1, 0, none⟩) n0_0 n0_0, .slice (some ⟨b2, 0, none⟩) n0_1 n0_1], fun g v w => v = .agg #[.int .i64 a1_0, .int .i64 a1_1, .int .i64 a1_2, .int .i64 a1_3], fun g v w => v = .agg #[.int .i64 a1_0, .int .i64 a1_1, .int .i64 a1_2, .int .i64 a1_3], fun g v w => v = .int .i64 a2, fun g v w => v = .int .i64 a3, fun g v w => v = .int .i64 a4, fun g v w => v = .int .i64 a5, fun g v w => ∃ A N C lo hi, v = .tuple #[.agg #[.int .i64 (orT OB a4), .int .i64 (orT OB a5), .slice A N C], .bool OB] ∧ ((A = none → C = 0) ∧ N ≤ C) ∧ w4.heap.size ≤ lo ∧ lo ≤ hi ∧ hi ≤ w.heap.size ∧ OwnHop w lo hi A N (growR z0_0 ⟨a1_0, a1_1, a1_2, a1_3⟩ a4 a5 [] 0 a2 0 a3 OB) ∧ BxA g lo hi, fun g v w => ∃ A N C lo hi, v = .tuple #[.agg #[.int .i64 (orT OB a4), .int .i64 (orT OB a5), .slice A N C], .bool OB] ∧ ((A = none → C = 0) ∧ N ≤ C) ∧ w4.heap.size ≤ lo ∧ lo ≤ hi ∧ hi ≤ w.heap.size ∧ OwnHop w lo hi A N (growR z0_0 ⟨a1_0, a1_1, a1_2, a1_3⟩ a4 a5 [] 0 a2 0 a3 OB) ∧ BxA g lo hi, fun g v w => ∃ A N C lo hi, v = .agg #[.int .i64 (orT OB a4), .int .i64 (orT OB a5), .slice A N C] ∧ ((A = none → C = 0) ∧ N ≤ C) ∧ w4.heap.size ≤ lo ∧ lo ≤ hi ∧ hi ≤ w.heap.size ∧ OwnHop w lo hi A N (growR z0_0 ⟨a1_0, a1_1, a1_2, a1_3⟩ a4 a5 [] 0 a2 0 a3 OB) ∧ BxA g lo hi, fun g v w => v = .bool OB, fun g v w => BxZ g 11 [.int .i64 0, .int .i64 0, .slice none 0 0] v w]) BxX (fun _ _ => False) 10 12 (by kernel_rfl) (by kernel_rfl) (by decide) (by decide) (by kernel_rfl) (fun _ => by kernel_rfl) (fgM_mono ⟨fun g g' v w w' h x => h, fun g g' v w w' h x => h, fun g g' v w w' h x => h, fun g g' v w w' h x => h, fun g g' v w w' h x => h, fun g g' v w w' h x => h, fun g g' v w w' h x => h, fun g g' v w w' h x => (by obtain ⟨A, N, C, lo, hi, h1, h2, h3, h4, h5, h6, h7⟩ := h; exact ⟨A, N, C, lo, hi, h1, h2, h3, h4, Nat.le_trans h5 x.far.size, h6.mk x.far h5 (.inr LR), h7.step x h5⟩), fun g g' v w w' h x => (by obtain ⟨A, N, C, lo, hi, h1, h2, h3, h4, h5, h6, h7⟩ := h; exact ⟨A, N, C, lo, hi, h1, h2, h3, h4, Nat.le_trans h5 x.far.size, h6.mk x.far h5 (.inr LR), h7.step x h5⟩), fun g g' v w w' h x => (by obtain ⟨A, N, C, lo, hi, h1, h2, h3, h4, h5, h6, h7⟩ := h; exact ⟨A, N, C, lo, hi, h1, h2, h3, h4, Nat.le_trans h5 x.far.size, h6.mk x.far h5 (.inr LR), h7.step x h5⟩), fun g g' v w w' h x => h, fun g g' v w w' h x => h.step x, trivial⟩) ⟨⟨Mk.drew1 _, k0_0, k0_1, k1_0, k1_1, k1_2, k1_3, xw0_0, xw0_1, xw0_2, xx0_0, xx0_1⟩, BxS.none_ _ _⟩ ?_
 change WkG _ _ _ _ _ _ 10 12 12 0 _
 refine WkG.value (m := 11) (k := 0) (by decide) rfl rfl (of_decide_eq_true (by rfl)) rfl (fun g w hS hF => ?_) (fun v0 => ?_)
 · obtain ⟨⟨s0, s1, s2, s3, s4, s5, s6, s7, s8, s9, s10, s11⟩, hB⟩ := hS
   exact ⟨.agg #[.slice (some ⟨b1, 0, none⟩) n0_0 n0_0, .slice (some ⟨b2, 0, none⟩) n0_1 n0_1], w, g, (by go_simp; try with_reducible rfl), ⟨⟨s0, s1, s2, s3, s4, s5, s6, s7, s8, s9, s10, s11⟩, hB⟩, BxX.same (Mk.refl _ _ _), rfl⟩
 try simp only [Act.put, List.getElem_toArray, List.getElem_cons_zero, List.setIfInBounds_toArray, List.set_cons_zero, List.set_cons_succ]
 refine WkG.value (m := 10) (k := 1) (by decide) rfl rfl (of_decide_eq_true (by rfl)) rfl (fun g w hS hF => ?_) (fun v1 => ?_)
 · obtain ⟨⟨s0, s1, s2, s3, s4, s5, s6, s7, s8, s9, s10, s11⟩, hB⟩ := hS
   exact ⟨.agg #[.int .i64 a1_0, .int .i64 a1_1, .int .i64 a1_2, .int .i64 a1_3], w, g, (by go_simp; try with_reducible rfl), ⟨⟨s0, s1, s2, s3, s4, s5, s6, s7, s8, s9, s10, s11⟩, hB⟩, BxX.same (Mk.refl _ _ _), rfl⟩
 try simp only [Act.put, List.getElem_toArray, List.getElem_cons_succ, List.getElem_cons_zero, List.setIfInBounds_toArray, List.set_cons_zero, List.set_cons_succ]
 refine WkG.call (m := 9) (k := 2) (by decide) rfl rfl (of_decide_eq_true (by rfl)) rfl (fun g w hS hF => ?_) (fun v2 => ?_)
 · obtain ⟨⟨s0, s1, s2, s3, s4, s5, s6, s7, s8, s9, s10, s11⟩, hB⟩ := hS
   have f1 : v1 = .agg #[.int .i64 a1_0, .int .i64 a1_1, .int .i64 a1_2, .int .i64 a1_3] := hF 1 (by rfl)
   obtain rfl := f1
   refine ⟨_, _, (by go_simp; first | done | exact ⟨rfl, rfl⟩ | with_reducible rfl), ?_⟩
   refine (toPolicyI a1_0 a1_1 a1_2 a1_3 w).mono ?_
   rintro e w' ⟨rfl, mm⟩
   exact ⟨_, g, rfl, ⟨⟨s0.trans mm, mm.cellAt s1, mm.cellAt s2, mm.cellAt s3, mm.cellAt s4, mm.cellAt s5, mm.cellAt s6, mm.cellAt s7, mm.cellAt s8, mm.cellAt s9, mm.cellAt s10, mm.cellAt s11⟩, hB.mk0 mm⟩, BxX.same mm, rfl⟩
 try simp only [Act.put, List.getElem_toArray, List.getElem_cons_succ, List.getElem_cons_zero, List.setIfInBounds_toArray, List.set_cons_zero, List.set_cons_succ]
 refine WkG.value (m := 8) (k := 3) (by decide) rfl rfl (of_decide_eq_true (by rfl)) rfl (fun g w hS hF => ?_) (fun v3 => ?_)
 · obtain ⟨⟨s0, s1, s2, s3, s4, s5, s6, s7, s8, s9, s10, s11⟩, hB⟩ := hS
   exact ⟨.int .i64 a2, w, g, (by go_simp; try with_reducible rfl), ⟨⟨s0, s1, s2, s3, s4, s5, s6, s7, s8, s9, s10, s11⟩, hB⟩, BxX.same (Mk.refl _ _ _), rfl⟩
 try simp only [Act.put, List.getElem_toArray, List.getElem_cons_succ, List.getElem_cons_zero, List.setIfInBounds_toArray, List.set_cons_zero, List.set_cons_succ]
 refine WkG.value (m := 7) (k := 4) (by decide) rfl rfl (of_decide_eq_true (by rfl)) rfl (fun g w hS hF => ?_) (fun v4 => ?_)
 · obtain ⟨⟨s0, s1, s2, s3, s4, s5, s6, s7, s8, s9, s10, s11⟩, hB⟩ := hS
   exact ⟨.int .i64 a3, w, g, (by go_simp; try with_reducible rfl), ⟨⟨s0, s1, s2, s3, s4, s5, s6, s7, s8, s9, s10, s11⟩, hB⟩, BxX.same (Mk.refl _ _ _), rfl⟩
 try simp only [Act.put, List.getElem_toArray, List.getElem_cons_succ, List.getElem_cons_zero, List.setIfInBounds_toArray, List.set_cons_zero, List.set_cons_succ]
 refine WkG.value (m := 6) (k := 5) (by decide) rfl rfl (of_decide_eq_true (by rfl)) rfl (fun g w hS hF => ?_) (fun v5 => ?_)
 · obtain ⟨⟨s0, s1, s2, s3, s4, s5, s6, s7, s8, s9, s10, s11⟩, hB⟩ := hS
   exact ⟨.int .i64 a4, w, g, (by go_simp; try with_reducible rfl), ⟨⟨s0, s1, s2, s3, s4, s5, s6, s7, s8, s9, s10, s11⟩, hB⟩, BxX.same (Mk.refl _ _ _), rfl⟩
 try simp only [Act.put, List.getElem_toArray, List.getElem_cons_succ, List.getElem_cons_zero, List.setIfInBounds_toArray, List.set_cons_zero, List.set_cons_succ]
 refine WkG.value (m := 5) (k := 6) (by decide) rfl rfl (of_decide_eq_true (by rfl)) rfl (fun g w hS hF => ?_) (fun v6 => ?_)
 · obtain ⟨⟨s0, s1, s2, s3, s4, s5, s6, s7, s8, s9, s10, s11⟩, hB⟩ := hS
   exact ⟨.int .i64 a5, w, g, (by go_simp; try with_reducible rfl), ⟨⟨s0, s1, s2, s3, s4, s5, s6, s7, s8, s9, s10, s11⟩, hB⟩, BxX.same (Mk.refl _ _ _), rfl⟩
 try simp only [Act.put, List.getElem_toArray, List.getElem_cons_succ, List.getElem_cons_zero, List.setIfInBounds_toArray, List.set_cons_zero, List.set_cons_succ]
 refine WkG.call (m := 4) (k := 7) (by decide) rfl rfl (of_decide_eq_true (by rfl)) rfl (fun g w hS hF => ?_) (fun v7 => ?_)
 · obtain ⟨⟨s0, s1, s2, s3, s4, s5, s6, s7, s8, s9, s10, s11⟩, hB⟩ := hS
   have f0 : v0 = .agg #[.slice (some ⟨b1, 0, none⟩) n0_0 n0_0, .slice (some ⟨b2, 0, none⟩) n0_1 n0_1] := hF 0 (by rfl)
   obtain rfl := f0
   have f2 : v2 = .agg #[.int .i64 a1_0, .int .i64 a1_1, .int .i64 a1_2, .int .i64 a1_3] := hF 2 (by rfl)
   obtain rfl := f2
   have f3 : v3 = .int .i64 a2 := hF 3 (by rfl)
   obtain rfl := f3
   have f4 : v4 = .int .i64 a3 := hF 4 (by rfl)
   obtain rfl := f4
   have f5 : v5 = .int .i64 a4 := hF 5 (by rfl)
   obtain rfl := f5
   have f6 : v6 = .int .i64 a5 := hF 6 (by rfl)
   obtain rfl := f6
   refine ⟨_, _, (by go_simp; first | done | exact ⟨rfl, rfl⟩ | with_reducible rfl), ?_⟩
   have KK := implOriginate _ _ _ _ _ _ _ z0_0 z0_1 ⟨a1_0, a1_1, a1_2, a1_3⟩ a2 a3 a4 a5 w (e13 _ s0) (e14 _ s0) LQ hN0_0 hN0_1 f0_0 wx4 wx5 wx2 wx3 ((M4.trans s0).cellAt hg)
   rw [← hOB] at KK
   refine KK.mono ?_
   rintro e w' ⟨A, N, C, rfl, hc, ow, mm⟩
   exact ⟨_, g, rfl, ⟨⟨s0.trans mm, mm.cellAt s1, mm.cellAt s2, mm.cellAt s3, mm.cellAt s4, mm.cellAt s5, mm.cellAt s6, mm.cellAt s7, mm.cellAt s8, mm.cellAt s9, mm.cellAt s10, mm.cellAt s11⟩, hB.mk0 mm⟩, BxX.same mm, ⟨A, N, C, w.heap.size, w'.heap.size, rfl, hc, s0.size, mm.size, Nat.le_refl _, ow, BxA.of hB⟩⟩
 try simp only [Act.put, List.getElem_toArray, List.getElem_cons_succ, List.getElem_cons_zero, List.setIfInBounds_toArray, List.set_cons_zero, List.set_cons_succ]
 refine WkG.value (m := 3) (k := 8) (by decide) rfl rfl (of_decide_eq_true (by rfl)) rfl (fun g w hS hF => ?_) (fun v8 => ?_)
 · obtain ⟨⟨s0, s1, s2, s3, s4, s5, s6, s7, s8, s9, s10, s11⟩, hB⟩ := hS
   have f7 : ∃ A N C lo hi, v7 = .tuple #[.agg #[.int .i64 (orT OB a4), .int .i64 (orT OB a5), .slice A N C], .bool OB] ∧ ((A = none → C = 0) ∧ N ≤ C) ∧ w4.heap.size ≤ lo ∧ lo ≤ hi ∧ hi ≤ w.heap.size ∧ OwnHop w lo hi A N (growR z0_0 ⟨a1_0, a1_1, a1_2, a1_3⟩ a4 a5 [] 0 a2 0 a3 OB) ∧ BxA g lo hi := hF 7 (by rfl)
   obtain ⟨A, N, C, lo, hi, rfl, h2, h3, h4, h5, h6, h7⟩ := f7
   exact ⟨.tuple #[.agg #[.int .i64 (orT OB a4), .int .i64 (orT OB a5), .slice A N C], .bool OB], w, g, (by go_simp; try with_reducible rfl), ⟨⟨s0, s1, s2, s3, s4, s5, s6, s7, s8, s9, s10, s11⟩, hB⟩, BxX.same (Mk.refl _ _ _), ⟨A, N, C, lo, hi, rfl, h2, h3, h4, h5, h6, h7⟩⟩
 try simp only [Act.put, List.getElem_toArray, List.getElem_cons_succ, List.getElem_cons_zero, List.setIfInBounds_toArray, List.set_cons_zero, List.set_cons_succ]
 refine WkG.value (m := 2) (k := 9) (by decide) rfl rfl (of_decide_eq_true (by rfl)) rfl (fun g w hS hF => ?_) (fun v9 => ?_)
 · obtain ⟨⟨s0, s1, s2, s3, s4, s5, s6, s7, s8, s9, s10, s11⟩, hB⟩ := hS
   have f8 : ∃ A N C lo hi, v8 = .tuple #[.agg #[.int .i64 (orT OB a4), .int .i64 (orT OB a5), .slice A N C], .bool OB] ∧ ((A = none → C = 0) ∧ N ≤ C) ∧ w4.heap.size ≤ lo ∧ lo ≤ hi ∧ hi ≤ w.heap.size ∧ OwnHop w lo hi A N (growR z0_0 ⟨a1_0, a1_1, a1_2, a1_3⟩ a4 a5 [] 0 a2 0 a3 OB) ∧ BxA g lo hi := hF 8 (by rfl)
   obtain ⟨A, N, C, lo, hi, rfl, h2, h3, h4, h5, h6, h7⟩ := f8
   exact ⟨.agg #[.int .i64 (orT OB a4), .int .i64 (orT OB a5), .slice A N C], w, g, (by go_simp; try with_reducible rfl), ⟨⟨s0, s1, s2, s3, s4, s5, s6, s7, s8, s9, s10, s11⟩, hB⟩, BxX.same (Mk.refl _ _ _), ⟨A, N, C, lo, hi, rfl, h2, h3, h4, h5, h6, h7⟩⟩
 try simp only [Act.put, List.getElem_toArray, List.getElem_cons_succ, List.getElem_cons_zero, List.setIfInBounds_toArray, List.set_cons_zero, List.set_cons_succ]
 refine WkG.pure (m := 1) (k := 10) (fun _ _ => BxX.same (Mk.refl _ _ _)) rfl rfl (of_decide_eq_true (by rfl)) rfl (fun g w hS hF => ?_) (fun v10 => ?_)
 · obtain ⟨⟨s0, s1, s2, s3, s4, s5, s6, s7, s8, s9, s10, s11⟩, hB⟩ := hS
   have f8 : ∃ A N C lo hi, v8 = .tuple #[.agg #[.int .i64 (orT OB a4), .int .i64 (orT OB a5), .slice A N C], .bool OB] ∧ ((A = none → C = 0) ∧ N ≤ C) ∧ w4.heap.size ≤ lo ∧ lo ≤ hi ∧ hi ≤ w.heap.size ∧ OwnHop w lo hi A N (growR z0_0 ⟨a1_0, a1_1, a1_2, a1_3⟩ a4 a5 [] 0 a2 0 a3 OB) ∧ BxA g lo hi := hF 8 (by rfl)
   obtain ⟨A, N, C, lo, hi, rfl, h2, h3, h4, h5, h6, h7⟩ := f8
   exact ⟨.bool OB, (fun w' => (by go_simp; try with_reducible rfl)), rfl⟩
 try simp only [Act.put, List.getElem_toArray, List.getElem_cons_succ, List.getElem_cons_zero, List.setIfInBounds_toArray, List.set_cons_zero, List.set_cons_succ]
 refine WkG.value (m := 0) (k := 11) (by decide) rfl rfl (of_decide_eq_true (by rfl)) rfl (fun g w hS hF => ?_) (fun v11 => ?_)
 · obtain ⟨⟨s0, s1, s2, s3, s4, s5, s6, s7, s8, s9, s10, s11⟩, hB⟩ := hS
   have mm := Mk.alloc w (Obj.cells #[.int .i64 0, .int .i64 0, .slice none 0 0] 31)
   exact ⟨.pointer (some ⟨w.heap.size, 0, none⟩), (w.alloc (Obj.cells #[.int .i64 0, .int .i64 0, .slice none 0 0] 31)), bxP g 11 w.heap.size, (by go_simp; try with_reducible rfl), ⟨⟨s0.trans mm, mm.cellAt s1, mm.cellAt s2, mm.cellAt s3, mm.cellAt s4, mm.cellAt s5, mm.cellAt s6, mm.cellAt s7, mm.cellAt s8, mm.cellAt s9, mm.cellAt s10, mm.cellAt s11⟩, hB.put s0.size 11 (Obj.cells #[.int .i64 0, .int .i64 0, .slice none 0 0] 31)⟩, BxX.put 11 (Obj.cells #[.int .i64 0, .int .i64 0, .slice none 0 0] 31), BxZ.new g 11 [.int .i64 0, .int .i64 0, .slice none 0 0] 31 w⟩
 try simp only [Act.put, List.getElem_toArray, List.getElem_cons_succ, List.getElem_cons_zero, List.setIfInBounds_toArray, List.set_cons_zero, List.set_cons_succ]
 refine WkG.done fun gE wq5 hE hF => ?_
 clear k0_0 k0_1 k1_0 k1_1 k1_2 k1_3 xw0_0 xw0_1 xw0_2 xx0_0 xx0_1
 obtain ⟨⟨m5, k0_0, k0_1, k1_0, k1_1, k1_2, k1_3, xw0_0, xw0_1, xw0_2, xx0_0, xx0_1⟩, hBE⟩ := hE
 change wpAny _ _ _ _ 2 _ _ _
 have f9 : ∃ A N C lo hi, v9 = .agg #[.int .i64 (orT OB a4), .int .i64 (orT OB a5), .slice A N C] ∧ ((A = none → C = 0) ∧ N ≤ C) ∧ w4.heap.size ≤ lo ∧ lo ≤ hi ∧ hi ≤ wq5.heap.size ∧ OwnHop wq5 lo hi A N (growR z0_0 ⟨a1_0, a1_1, a1_2, a1_3⟩ a4 a5 [] 0 a2 0 a3 OB) ∧ BxA gE lo hi := hF 9 (by decide)
 obtain ⟨Ag0, Ng0, Cg0, log0, hig0, rfl, hcg0, hlg0, hmg0, hhg0, og0, hAg0⟩ := f9
 have f10 : v10 = .bool OB := hF 10 (by decide)
 obtain rfl := f10
 have f11 : BxZ gE 11 [.int .i64 0, .int .i64 0, .slice none 0 0] v11 wq5 := hF 11 (by decide)
 obtain ⟨Bg0, hgg0, rfl, hltg0, hzg0, hfg0⟩ := f11
 have hsg0 := hAg0 11 Bg0 hgg0
 have hbg00 := hBE.lo 11 Bg0 hgg0
 have xg0_0 := hzg0 0 _ rfl
 have xg0_1 := hzg0 1 _ rfl
 have xg0_2 := hzg0 2 _ rfl
 clear hF
 refine wpAny_ready (rs := [12]) (by kernel_rfl) (by simp) ?_
 refine (AllReady.cons rfl (fun K hK => ?_) AllReady.nil)
 go_simp
 refine hK _ _ ?_
 clear hK K
 try simp only [Act.put, List.getElem_toArray, List.getElem_cons_succ, List.getElem_cons_zero, List.setIfInBounds_toArray, List.set_cons_zero, List.set_cons_succ]
 refine wpAny_ready (rs := [13]) (by kernel_rfl) (by simp) ?_
 refine (AllReady.cons rfl (fun K hK => ?_) AllReady.nil)
 go_simp
 refine hK _ _ ?_
 clear hK K
 try simp only [Act.put, List.getElem_toArray, List.getElem_cons_succ, List.getElem_cons_zero, List.setIfInBounds_toArray, List.set_cons_zero, List.set_cons_succ]
 have yn0 : Bg0 ≠ w.heap.size := by omega
 have yn1 : Bg0 ≠ w.heap.size + 1 := by omega
 have yn2 : Bg0 ≠ Bw0 := by omega
 have yn3 : Bg0 ≠ w3.heap.size := by omega
 replace xg0_0 := World.cell?_setCell_same _ _ (.int .i64 (orT OB a4)) xg0_0
 replace xg0_1 := cell_set xg0_1 ⟨Bg0, 0, none⟩ (.int .i64 (orT OB a4)) (.inr (by simp))
 replace xg0_2 := cell_set xg0_2 ⟨Bg0, 0, none⟩ (.int .i64 (orT OB a4)) (.inr (by simp))
 replace k0_0 := cell_set k0_0 ⟨Bg0, 0, none⟩ (.int .i64 (orT OB a4)) (.inl yn0)
 replace k0_1 := cell_set k0_1 ⟨Bg0, 0, none⟩ (.int .i64 (orT OB a4)) (.inl yn0)
 replace k1_0 := cell_set k1_0 ⟨Bg0, 0, none⟩ (.int .i64 (orT OB a4)) (.inl yn1)
 replace k1_1 := cell_set k1_1 ⟨Bg0, 0, none⟩ (.int .i64 (orT OB a4)) (.inl yn1)
 replace k1_2 := cell_set k1_2 ⟨Bg0, 0, none⟩ (.int .i64 (orT OB a4)) (.inl yn1)
 replace k1_3 := cell_set k1_3 ⟨Bg0, 0, none⟩ (.int .i64 (orT OB a4)) (.inl yn1)
 replace xw0_0 := cell_set xw0_0 ⟨Bg0, 0, none⟩ (.int .i64 (orT OB a4)) (.inl yn2)
 replace xw0_1 := cell_set xw0_1 ⟨Bg0, 0, none⟩ (.int .i64 (orT OB a4)) (.inl yn2)
 replace xw0_2 := cell_set xw0_2 ⟨Bg0, 0, none⟩ (.int .i64 (orT OB a4)) (.inl yn2)
 replace xx0_0 := cell_set xx0_0 ⟨Bg0, 0, none⟩ (.int .i64 (orT OB a4)) (.inl yn3)
 replace xx0_1 := cell_set xx0_1 ⟨Bg0, 0, none⟩ (.int .i64 (orT OB a4)) (.inl yn3)
 replace og0 := og0.set ⟨Bg0, 0, none⟩ (.int .i64 (orT OB a4)) hsg0
 replace m5 := m5.put ⟨Bg0, 0, none⟩ (.int .i64 (orT OB a4)) hbg00
 replace xg0_0 := cell_set xg0_0 ⟨Bg0, 1, none⟩ (.int .i64 (orT OB a5)) (.inr (by simp))
 replace xg0_1 := World.cell?_setCell_same _ _ (.int .i64 (orT OB a5)) xg0_1
 replace xg0_2 := cell_set xg0_2 ⟨Bg0, 1, none⟩ (.int .i64 (orT OB a5)) (.inr (by simp))
 replace k0_0 := cell_set k0_0 ⟨Bg0, 1, none⟩ (.int .i64 (orT OB a5)) (.inl yn0)
 replace k0_1 := cell_set k0_1 ⟨Bg0, 1, none⟩ (.int .i64 (orT OB a5)) (.inl yn0)
 replace k1_0 := cell_set k1_0 ⟨Bg0, 1, none⟩ (.int .i64 (orT OB a5)) (.inl yn1)
 replace k1_1 := cell_set k1_1 ⟨Bg0, 1, none⟩ (.int .i64 (orT OB a5)) (.inl yn1)
 replace k1_2 := cell_set k1_2 ⟨Bg0, 1, none⟩ (.int .i64 (orT OB a5)) (.inl yn1)
 replace k1_3 := cell_set k1_3 ⟨Bg0, 1, none⟩ (.int .i64 (orT OB a5)) (.inl yn1)
 replace xw0_0 := cell_set xw0_0 ⟨Bg0, 1, none⟩ (.int .i64 (orT OB a5)) (.inl yn2)
 replace xw0_1 := cell_set xw0_1 ⟨Bg0, 1, none⟩ (.int .i64 (orT OB a5)) (.inl yn2)
 replace xw0_2 := cell_set xw0_2 ⟨Bg0, 1, none⟩ (.int .i64 (orT OB a5)) (.inl yn2)
 replace xx0_0 := cell_set xx0_0 ⟨Bg0, 1, none⟩ (.int .i64 (orT OB a5)) (.inl yn3)
 replace xx0_1 := cell_set xx0_1 ⟨Bg0, 1, none⟩ (.int .i64 (orT OB a5)) (.inl yn3)
 replace og0 := og0.set ⟨Bg0, 1, none⟩ (.int .i64 (orT OB a5)) hsg0
 replace m5 := m5.put ⟨Bg0, 1, none⟩ (.int .i64 (orT OB a5)) hbg00
 replace xg0_0 := cell_set xg0_0 ⟨Bg0, 2, none⟩ (.slice Ag0 Ng0 Cg0) (.inr (by simp))
 replace xg0_1 := cell_set xg0_1 ⟨Bg0, 2, none⟩ (.slice Ag0 Ng0 Cg0) (.inr (by simp))
 replace xg0_2 := World.cell?_setCell_same _ _ (.slice Ag0 Ng0 Cg0) xg0_2
 replace k0_0 := cell_set k0_0 ⟨Bg0, 2, none⟩ (.slice Ag0 Ng0 Cg0) (.inl yn0)
 replace k0_1 := cell_set k0_1 ⟨Bg0, 2, none⟩ (.slice Ag0 Ng0 Cg0) (.inl yn0)
 replace k1_0 := cell_set k1_0 ⟨Bg0, 2, none⟩ (.slice Ag0 Ng0 Cg0) (.inl yn1)
 replace k1_1 := cell_set k1_1 ⟨Bg0, 2, none⟩ (.slice Ag0 Ng0 Cg0) (.inl yn1)
 replace k1_2 := cell_set k1_2 ⟨Bg0, 2, none⟩ (.slice Ag0 Ng0 Cg0) (.inl yn1)
 replace k1_3 := cell_set k1_3 ⟨Bg0, 2, none⟩ (.slice Ag0 Ng0 Cg0) (.inl yn1)
 replace xw0_0 := cell_set xw0_0 ⟨Bg0, 2, none⟩ (.slice Ag0 Ng0 Cg0) (.inl yn2)
 replace xw0_1 := cell_set xw0_1 ⟨Bg0, 2, none⟩ (.slice Ag0 Ng0 Cg0) (.inl yn2)
 replace xw0_2 := cell_set xw0_2 ⟨Bg0, 2, none⟩ (.slice Ag0 Ng0 Cg0) (.inl yn2)
 replace xx0_0 := cell_set xx0_0 ⟨Bg0, 2, none⟩ (.slice Ag0 Ng0 Cg0) (.inl yn3)
 replace xx0_1 := cell_set xx0_1 ⟨Bg0, 2, none⟩ (.slice Ag0 Ng0 Cg0) (.inl yn3)
 replace og0 := og0.set ⟨Bg0, 2, none⟩ (.slice Ag0 Ng0 Cg0) hsg0
 replace m5 := m5.put ⟨Bg0, 2, none⟩ (.slice Ag0 Ng0 Cg0) hbg00
 have zq : (((wq5.setCell ⟨Bg0, 0, none⟩ (.int .i64 (orT OB a4))).setCell ⟨Bg0, 1, none⟩ (.int .i64 (orT OB a5))).setCell ⟨Bg0, 2, none⟩ (.slice Ag0 Ng0 Cg0)).heap.size = wq5.heap.size := by simp only [World.size_set]
 clear hzg0 hfg0 hAg0 hgg0 hBE
 generalize (((wq5.setCell ⟨Bg0, 0, none⟩ (.int .i64 (orT OB a4))).setCell ⟨Bg0, 1, none⟩ (.int .i64 (orT OB a5))).setCell ⟨Bg0, 2, none⟩ (.slice Ag0 Ng0 Cg0)) = w5 at *
 rw [← zq] at hhg0 hltg0
 clear zq
 clear yn0 yn1 yn2 yn3
 refine wpAny_doneN (by kernel_rfl) ?_
 refine ‹∀ (a : Act) (w : World), _ → _› _ _ ?_
 clear e13 e14 hN0_0 hN0_1 yr5_0 yr5_1 yr5_2 yr5_3
 obtain rfl : Nw0 = Ng0 := ow0.1.symm.trans og0.1
 replace h8 := h8.mk m5 (by omega) LR
 replace h9 := h9.mk m5 (by omega) LR
 replace o4 := o4.mk m5 (by omega) (.inr LR)
 replace o5 := o5.mk m5 (by omega) (.inr LR)
 replace ow0 := ow0.mk m5 (by omega) (.inr LR)
 have M5 := M4.trans m5
 have z5 := m5.size
 go_wp2_with fail
 refine (eqSegmentC _ _ _ _ _ _ _ _ _ _ _ og0.has ow0.has (by omega) (by omega) (by omega)).mono ?_
 rintro e w6 ⟨rfl, m6⟩
 have M6 := M5.trans m6
 have z6 := m6.size
 replace k0_0 := m6.cellAt k0_0
 replace k0_1 := m6.cellAt k0_1
 replace k1_0 := m6.cellAt k1_0
 replace k1_1 := m6.cellAt k1_1
 replace k1_2 := m6.cellAt k1_2
 replace k1_3 := m6.cellAt k1_3
 replace xw0_0 := m6.cellAt xw0_0
 replace xw0_1 := m6.cellAt xw0_1
 replace xw0_2 := m6.cellAt xw0_2
 replace xx0_0 := m6.cellAt xx0_0
 replace xx0_1 := m6.cellAt xx0_1
 replace xg0_0 := m6.cellAt xg0_0
 replace xg0_1 := m6.cellAt xg0_1
 replace xg0_2 := m6.cellAt xg0_2
 replace h8 := h8.mk m6 (by omega) LR
 replace h9 := h9.mk m6 (by omega) LR
 replace o4 := o4.mk m6 (by omega) (.inr LR)
 replace o5 := o5.mk m6 (by omega) (.inr LR)
 replace ow0 := ow0.mk m6 (by omega) (.inr LR)
 replace og0 := og0.mk m6 (by omega) (.inr LR)
 go_wp2_with fail
 have e15 : ∀ w', Mk0 w6 w' → HasAS w' w3.heap.size (some ⟨b1, 0, none⟩) n0_0 z0_0 := fun w' m => h8.mk m (by omega) LR
 have e16 : ∀ w', Mk0 w6 w' → HasLink w' w3.heap.size (some ⟨b2, 0, none⟩) n0_1 z0_1 := fun w' m => h9.mk m (by omega) LR
 have e17 : ∀ w', Mk0 w6 w' → w3.heap.size ≤ w'.heap.size := fun w' m => Nat.le_trans (by omega) m.size
 have e18 : ∀ w', Mk0 w6 w' → HasAS w' w.heap.size a0_0 n0_0 z0_0 := fun w' m => h0_0.mk (M6.trans m) LQ LR
 have e19 : ∀ w', Mk0 w6 w' → HasLink w' w.heap.size a0_1 n0_1 z0_1 := fun w' m => h0_1.mk (M6.trans m) LQ LR
 have hN0_0 : n0_0 ≤ 1048576 := by omega
 have hN0_1 : n0_1 ≤ 1048576 := by omega
 go_region_held3 (fun w' => Mk0 w6 w' ∧ w'.cell? ⟨w.heap.size, 0, none⟩ = some (.slice a0_0 n0_0 c0_0) ∧ w'.cell? ⟨w.heap.size, 1, none⟩ = some (.slice a0_1 n0_1 c0_1) ∧ w'.cell? ⟨w.heap.size + 1, 0, none⟩ = some (.int .i64 a1_0) ∧ w'.cell? ⟨w.heap.size + 1, 1, none⟩ = some (.int .i64 a1_1) ∧ w'.cell? ⟨w.heap.size + 1, 2, none⟩ = some (.int .i64 a1_2) ∧ w'.cell? ⟨w.heap.size + 1, 3, none⟩ = some (.int .i64 a1_3) ∧ w'.cell? ⟨Bw0, 0, none⟩ = some (.int .i64 (orT OB a4)) ∧ w'.cell? ⟨Bw0, 1, none⟩ = some (.int .i64 (orT OB a5)) ∧ w'.cell? ⟨Bw0, 2, none⟩ = some (.slice Aw0 Nw0 Cw0) ∧ w'.cell? ⟨w3.heap.size, 0, none⟩ = some (.slice (some ⟨b1, 0, none⟩) n0_0 n0_0) ∧ w'.cell? ⟨w3.heap.size, 1, none⟩ = some (.slice (some ⟨b2, 0, none⟩) n0_1 n0_1) ∧ w'.cell? ⟨Bg0, 0, none⟩ = some (.int .i64 (orT OB a4)) ∧ w'.cell? ⟨Bg0, 1, none⟩ = some (.int .i64 (orT OB a5)) ∧ w'.cell? ⟨Bg0, 2, none⟩ = some (.slice Ag0 Nw0 Cg0)) (first | exact ⟨Mk.drew1 _, k0_0, k0_1, k1_0, k1_1, k1_2, k1_3, xw0_0, xw0_1, xw0_2, xx0_0, xx0_1, xg0_0, xg0_1, xg0_2⟩ | (obtain ⟨s0, s1, s2, s3, s4, s5, s6, s7, s8, s9, s10, s11, s12, s13, s14⟩ := ‹Mk0 w6 _ ∧ _›; exact ⟨s0.trans mm, mm.cellAt s1, mm.cellAt s2, mm.cellAt s3, mm.cellAt s4, mm.cellAt s5, mm.cellAt s6, mm.cellAt s7, mm.cellAt s8, mm.cellAt s9, mm.cellAt s10, mm.cellAt s11, mm.cellAt s12, mm.cellAt s13, mm.cellAt s14⟩)) (first | (go_at_call 10; refine (toTopologyC _ _ _ _ _ _ _ _ w.heap.size _ (e18 _ (‹Mk0 w6 _ ∧ _›).1) (e19 _ (‹Mk0 w6 _ ∧ _›).1) (M6.trans (‹Mk0 w6 _ ∧ _›).1).size hN0_0 hN0_1).mono ?_; rintro e wa ⟨bb0, bb1, dd0, rfl, oo0, oo1, gg0, gg1, mm⟩) | (go_at_call 14; refine (eqTopologyC _ _ _ _ _ _ _ _ _ _ _ _ _ _ _ (e15 _ (‹Mk0 w6 _ ∧ _›).1) (e16 _ (‹Mk0 w6 _ ∧ _›).1) (oo0.has.mono gg1) (oo1.has.mono LQ) (e17 _ (‹Mk0 w6 _ ∧ _›).1) LQ hN0_0 hN0_1).mono ?_; rintro e wb7 ⟨rfl, mm⟩))
 obtain ⟨m7, k0_0, k0_1, k1_0, k1_1, k1_2, k1_3, xw0_0, xw0_1, xw0_2, xx0_0, xx0_1, xg0_0, xg0_1, xg0_2⟩ := ‹Mk0 w6 _ ∧ _›
 clear e15 e16 e17 e18 e19 hN0_0 hN0_1
 refine ‹∀ (a : Act) (w : World), _ → _› _ _ ?_
 have M7 := M6.trans m7
 have z7 := m7.size
 replace h8 := h8.mk m7 (by omega) LR
 replace h9 := h9.mk m7 (by omega) LR
 replace o4 := o4.mk m7 (by omega) (.inr LR)
 replace o5 := o5.mk m7 (by omega) (.inr LR)
 replace ow0 := ow0.mk m7 (by omega) (.inr LR)
 replace og0 := og0.mk m7 (by omega) (.inr LR)
 go_wp2_with fail
 refine (markTopologyC _ _ _ _ _ _ _ _ w2.heap.size d3 w3.heap.size _ _ o4 o5 (by omega) (by omega) (by omega) (by omega) (by omega) (by omega) (by omega)).mono ?_
 rintro e w8 ⟨l8, hl8, rfl, m8⟩
 have M8 := M7.andR m8 (.inl (by omega))
 have z8 := m8.size
 replace k0_0 := m8.cellAtR k0_0 (by omega)
 replace k0_1 := m8.cellAtR k0_1 (by omega)
 replace k1_0 := m8.cellAtR k1_0 (by omega)
 replace k1_1 := m8.cellAtR k1_1 (by omega)
 replace k1_2 := m8.cellAtR k1_2 (by omega)
 replace k1_3 := m8.cellAtR k1_3 (by omega)
 replace xw0_0 := m8.cellAtR xw0_0 (by omega)
 replace xw0_1 := m8.cellAtR xw0_1 (by omega)
 replace xw0_2 := m8.cellAtR xw0_2 (by omega)
 replace xx0_0 := m8.cellAtR xx0_0 (by omega)
 replace xx0_1 := m8.cellAtR xx0_1 (by omega)
 replace xg0_0 := m8.cellAtR xg0_0 (by omega)
 replace xg0_1 := m8.cellAtR xg0_1 (by omega)
 replace xg0_2 := m8.cellAtR xg0_2 (by omega)
 replace ow0 := ow0.mk m8 (by omega) (by omega)
 replace og0 := og0.mk m8 (by omega) (by omega)
 go_wp2_with fail
 refine (eqSegmentC _ _ _ _ _ _ _ _ _ _ _ og0.has ow0.has (by omega) (by omega) (by omega)).mono ?_
 rintro e w9 ⟨rfl, m9⟩
 have M9 := M8.trans m9
 have z9 := m9.size
 replace k0_0 := m9.cellAt k0_0
 replace k0_1 := m9.cellAt k0_1
 replace k1_0 := m9.cellAt k1_0
 replace k1_1 := m9.cellAt k1_1
 replace k1_2 := m9.cellAt k1_2
 replace k1_3 := m9.cellAt k1_3
 replace xw0_0 := m9.cellAt xw0_0
 replace xw0_1 := m9.cellAt xw0_1
 replace xw0_2 := m9.cellAt xw0_2
 replace xx0_0 := m9.cellAt xx0_0
 replace xx0_1 := m9.cellAt xx0_1
 replace xg0_0 := m9.cellAt xg0_0
 replace xg0_1 := m9.cellAt xg0_1
 replace xg0_2 := m9.cellAt xg0_2
 replace ow0 := ow0.mk m9 (by omega) (.inr LR)
 replace og0 := og0.mk m9 (by omega) (.inr LR)
 go_wp2_with fail
 refine (markSegmentK _ _ _ _ _ log0 hig0 _ _ _ og0 (by omega) (by omega) (by omega) (by omega)).mono ?_
 rintro e w10 ⟨rfl, oo10, m10⟩
 replace og0 := oo10
 clear oo10
 have M10 := M9.andR m10 (.inl (by omega))
 have z10 := m10.size
 replace k0_0 := m10.cellAtR k0_0 (by omega)
 replace k0_1 := m10.cellAtR k0_1 (by omega)
 replace k1_0 := m10.cellAtR k1_0 (by omega)
 replace k1_1 := m10.cellAtR k1_1 (by omega)
 replace k1_2 := m10.cellAtR k1_2 (by omega)
 replace k1_3 := m10.cellAtR k1_3 (by omega)
 replace xw0_0 := m10.cellAtR xw0_0 (by omega)
 replace xw0_1 := m10.cellAtR xw0_1 (by omega)
 replace xw0_2 := m10.cellAtR xw0_2 (by omega)
 replace xx0_0 := m10.cellAtR xx0_0 (by omega)
 replace xx0_1 := m10.cellAtR xx0_1 (by omega)
 replace xg0_0 := m10.cellAtR xg0_0 (by omega)
 replace xg0_1 := m10.cellAtR xg0_1 (by omega)
 replace xg0_2 := m10.cellAtR xg0_2 (by omega)
 replace ow0 := ow0.mk m10 (by omega) (by omega)
 go_wp2_with fail
 refine (heldSegmentK _ _ _ _ _ _ _ _ og0.has (by omega) (by omega) (by omega) (by omega)).mono ?_
 rintro e w11 ⟨rfl, m11⟩
 have M11 := M10.trans m11
 have z11 := m11.size
 replace k0_0 := m11.cellAt k0_0
 replace k0_1 := m11.cellAt k0_1
 replace k1_0 := m11.cellAt k1_0
 replace k1_1 := m11.cellAt k1_1
 replace k1_2 := m11.cellAt k1_2
 replace k1_3 := m11.cellAt k1_3
 replace xw0_0 := m11.cellAt xw0_0
 replace xw0_1 := m11.cellAt xw0_1
 replace xw0_2 := m11.cellAt xw0_2
 replace xx0_0 := m11.cellAt xx0_0
 replace xx0_1 := m11.cellAt xx0_1
 replace xg0_0 := m11.cellAt xg0_0
 replace xg0_1 := m11.cellAt xg0_1
 replace xg0_2 := m11.cellAt xg0_2
 replace ow0 := ow0.mk m11 (by omega) (.inr LR)
 replace og0 := og0.mk m11 (by omega) (.inr LR)
 go_wp2_with fail
 have yr12_0 : w.heap.size < w11.heap.size := by omega
 have yr12_1 : w.heap.size + 1 < w11.heap.size := by omega
 have yr12_2 : Bw0 < w11.heap.size := by omega
 have yr12_3 : w3.heap.size < w11.heap.size := by omega
 have yr12_4 : Bg0 < w11.heap.size := by omega
 have hN0_0 : n0_0 ≤ 1048576 := by omega
 have hN0_1 : n0_1 ≤ 1048576 := by omega
 refine wp_region_fg (fun (g : Bxs) w' => (Mk0 w11 w' ∧ w'.cell? ⟨w.heap.size, 0, none⟩ = some (.slice a0_0 n0_0 c0_0) ∧ w'.cell? ⟨w.heap.size, 1, none⟩ = some (.slice a0_1 n0_1 c0_1) ∧ w'.cell? ⟨w.heap.size + 1, 0, none⟩ = some (.int .i64 a1_0) ∧ w'.cell? ⟨w.heap.size + 1, 1, none⟩ = some (.int .i64 a1_1) ∧ w'.cell? ⟨w.heap.size + 1, 2, none⟩ = some (.int .i64 a1_2) ∧ w'.cell? ⟨w.heap.size + 1, 3, none⟩ = some (.int .i64 a1_3) ∧ w'.cell? ⟨Bw0, 0, none⟩ = some (.int .i64 (orT OB a4)) ∧ w'.cell? ⟨Bw0, 1, none⟩ = some (.int .i64 (orT OB a5)) ∧ w'.cell? ⟨Bw0, 2, none⟩ = some (.slice Aw0 Nw0 Cw0) ∧ w'.cell? ⟨w3.heap.size, 0, none⟩ = some (.slice (some ⟨b1, 0, none⟩) n0_0 n0_0) ∧ w'.cell? ⟨w3.heap.size, 1, none⟩ = some (.slice (some ⟨b2, 0, none⟩) n0_1 n0_1) ∧ w'.cell? ⟨Bg0, 0, none⟩ = some (.int .i64 (orT OB a4)) ∧ w'.cell? ⟨Bg0, 1, none⟩ = some (.int .i64 (orT OB a5)) ∧ w'.cell? ⟨Bg0, 2, none⟩ = some (.slice Ag0 Nw0 Cg0)) ∧ BxS w11.heap.size g w') (fgF [fun g v w => v = .agg #[.slice a0_0 n0_0 c0_0, .slice a0_1 n0_1 c0_1], fun g v w => ∃ b0_0 b0_1, v = .agg #[.slice (some ⟨b0_0, 0, none⟩) n0_0 n0_0, .slice (some ⟨b0_1, 0, none⟩) n0_1 n0_1] ∧ HasAS w w.heap.size (some ⟨b0_0, 0, none⟩) n0_0 z0_0 ∧ HasLink w w.heap.size (some ⟨b0_1, 0, none⟩) n0_1 z0_1, fun g v w => v = .agg #[.int .i64 a1_0, .int .i64 a1_1, .int .i64 a1_2, .int .i64 a1_3], fun g v w => v = .agg #[.int .i64 a1_0, .int .i64 a1_1, .int .i64 a1_2, .int .i64 a1_3], fun g v w => v = .int .i64 a2, fun g v w => v = .int .i64 a3, fun g v w => v = .int .i64 a4, fun g v w => v = .int .i64 a5, fun g v w => ∃ A N C lo hi, v = .tuple #[.agg #[.int .i64 (orT OB a4), .int .i64 (orT OB a5), .slice A N C], .bool OB] ∧ ((A = none → C = 0) ∧ N ≤ C) ∧ w11.heap.size ≤ lo ∧ lo ≤ hi ∧ hi ≤ w.heap.size ∧ OwnHop w lo hi A N (growR z0_0 ⟨a1_0, a1_1, a1_2, a1_3⟩ a4 a5 [] 0 a2 0 a3 OB) ∧ BxA g lo hi, fun g v w => ∃ A N C lo hi, v = .tuple #[.agg #[.int .i64 (orT OB a4), .int .i64 (orT OB a5), .slice A N C], .bool OB] ∧ ((A = none → C = 0) ∧ N ≤ C) ∧ w11.heap.size ≤ lo ∧ lo ≤ hi ∧ hi ≤ w.heap.size ∧ OwnHop w lo hi A N (growR z0_0 ⟨a1_0, a1_1, a1_2, a1_3⟩ a4 a5 [] 0 a2 0 a3 OB) ∧ BxA g lo hi, fun g v w => ∃ A N C lo hi, v = .agg #[.int .i64 (orT OB a4), .int .i64 (orT OB a5), .slice A N C] ∧ ((A = none → C = 0) ∧ N ≤ C) ∧ w11.heap.size ≤ lo ∧ lo ≤ hi ∧ hi ≤ w.heap.size ∧ OwnHop w lo hi A N (growR z0_0 ⟨a1_0, a1_1, a1_2, a1_3⟩ a4 a5 [] 0 a2 0 a3 OB) ∧ BxA g lo hi, fun g v w => v = .bool OB, fun g v w => BxZ g 12 [.int .i64 0, .int .i64 0, .slice none 0 0] v w]) BxX (fun _ _ => False) 11 13 (by kernel_rfl) (by kernel_rfl) (by decide) (by decide) (by kernel_rfl) (fun _ => by kernel_rfl) (fgM_mono ⟨fun g g' v w w' h x => h, fun g g' v w w' h x => (by obtain ⟨b0_0, b0_1, h1, r0_0, r0_1⟩ := h; exact ⟨_, _, h1, (r0_0.mk x.far LQ LR).mono x.far.size, (r0_1.mk x.far LQ LR).mono x.far.size⟩), fun g g' v w w' h x => h, fun g g' v w w' h x => h, fun g g' v w w' h x => h, fun g g' v w w' h x => h, fun g g' v w w' h x => h, fun g g' v w w' h x => h, fun g g' v w w' h x => (by obtain ⟨A, N, C, lo, hi, h1, h2, h3, h4, h5, h6, h7⟩ := h; exact ⟨A, N, C, lo, hi, h1, h2, h3, h4, Nat.le_trans h5 x.far.size, h6.mk x.far h5 (.inr LR), h7.step x h5⟩), fun g g' v w w' h x => (by obtain ⟨A, N, C, lo, hi, h1, h2, h3, h4, h5, h6, h7⟩ := h; exact ⟨A, N, C, lo, hi, h1, h2, h3, h4, Nat.le_trans h5 x.far.size, h6.mk x.far h5 (.inr LR), h7.step x h5⟩), fun g g' v w w' h x => (by obtain ⟨A, N, C, lo, hi, h1, h2, h3, h4, h5, h6, h7⟩ := h; exact ⟨A, N, C, lo, hi, h1, h2, h3, h4, Nat.le_trans h5 x.far.size, h6.mk x.far h5 (.inr LR), h7.step x h5⟩), fun g g' v w w' h x => h, fun g g' v w w' h x => h.step x, trivial⟩) ⟨⟨Mk.drew1 _, k0_0, k0_1, k1_0, k1_1, k1_2, k1_3, xw0_0, xw0_1, xw0_2, xx0_0, xx0_1, xg0_0, xg0_1, xg0_2⟩, BxS.none_ _ _⟩ ?_
 change WkG _ _ _ _ _ _ 11 13 13 0 _
 refine WkG.value (m := 12) (k := 0) (by decide) rfl rfl (of_decide_eq_true (by rfl)) rfl (fun g w hS hF => ?_) (fun v0 => ?_)
 · obtain ⟨⟨s0, s1, s2, s3, s4, s5, s6, s7, s8, s9, s10, s11, s12, s13, s14⟩, hB⟩ := hS
   exact ⟨.agg #[.slice a0_0 n0_0 c0_0, .slice a0_1 n0_1 c0_1], w, g, (by go_simp; try with_reducible rfl), ⟨⟨s0, s1, s2, s3, s4, s5, s6, s7, s8, s9, s10, s11, s12, s13, s14⟩, hB⟩, BxX.same (Mk.refl _ _ _), rfl⟩
 try simp only [Act.put, List.getElem_toArray, List.getElem_cons_zero, List.setIfInBounds_toArray, List.set_cons_zero, List.set_cons_succ]
 refine WkG.call (m := 11) (k := 1) (by decide) rfl rfl (of_decide_eq_true (by rfl)) rfl (fun g w hS hF => ?_) (fun v1 => ?_)
 · obtain ⟨⟨s0, s1, s2, s3, s4, s5, s6, s7, s8, s9, s10, s11, s12, s13, s14⟩, hB⟩ := hS
   have f0 : v0 = .agg #[.slice a0_0 n0_0 c0_0, .slice a0_1 n0_1 c0_1] := hF 0 (by rfl)
   obtain rfl := f0
   refine ⟨_, _, (by go_simp; first | done | exact ⟨rfl, rfl⟩ | with_reducible rfl), ?_⟩
   refine (toTopologyC a0_0 n0_0 c0_0 z0_0 a0_1 n0_1 c0_1 z0_1 _ w (h0_0.mk (M11.trans s0) LQ LR) (h0_1.mk (M11.trans s0) LQ LR) (M11.trans s0).size hN0_0 hN0_1).mono ?_
   rintro e w' ⟨b0_0, b0_1, d0, rfl, o0, o1, g0, g1, mm⟩
   exact ⟨_, g, rfl, ⟨⟨s0.trans mm, mm.cellAt s1, mm.cellAt s2, mm.cellAt s3, mm.cellAt s4, mm.cellAt s5, mm.cellAt s6, mm.cellAt s7, mm.cellAt s8, mm.cellAt s9, mm.cellAt s10, mm.cellAt s11, mm.cellAt s12, mm.cellAt s13, mm.cellAt s14⟩, hB.mk0 mm⟩, BxX.same mm, ⟨_, _, rfl, o0.has.mono g1, o1.has.mono LQ⟩⟩
 try simp only [Act.put, List.getElem_toArray, List.getElem_cons_succ, List.getElem_cons_zero, List.setIfInBounds_toArray, List.set_cons_zero, List.set_cons_succ]
 refine WkG.value (m := 10) (k := 2) (by decide) rfl rfl (of_decide_eq_true (by rfl)) rfl (fun g w hS hF => ?_) (fun v2 => ?_)
 · obtain ⟨⟨s0, s1, s2, s3, s4, s5, s6, s7, s8, s9, s10, s11, s12, s13, s14⟩, hB⟩ := hS
   exact ⟨.agg #[.int .i64 a1_0, .int .i64 a1_1, .int .i64 a1_2, .int .i64 a1_3], w, g, (by go_simp; try with_reducible rfl), ⟨⟨s0, s1, s2, s3, s4, s5, s6, s7, s8, s9, s10, s11, s12, s13, s14⟩, hB⟩, BxX.same (Mk.refl _ _ _), rfl⟩
 try simp only [Act.put, List.getElem_toArray, List.getElem_cons_succ, List.getElem_cons_zero, List.setIfInBounds_toArray, List.set_cons_zero, List.set_cons_succ]
 refine WkG.call (m := 9) (k := 3) (by decide) rfl rfl (of_decide_eq_true (by rfl)) rfl (fun g w hS hF => ?_) (fun v3 => ?_)
 · obtain ⟨⟨s0, s1, s2, s3, s4, s5, s6, s7, s8, s9, s10, s11, s12, s13, s14⟩, hB⟩ := hS
   have f2 : v2 = .agg #[.int .i64 a1_0, .int .i64 a1_1, .int .i64 a1_2, .int .i64 a1_3] := hF 2 (by rfl)
   obtain rfl := f2
   refine ⟨_, _, (by go_simp; first | done | exact ⟨rfl, rfl⟩ | with_reducible rfl), ?_⟩
   refine (toPolicyI a1_0 a1_1 a1_2 a1_3 w).mono ?_
   rintro e w' ⟨rfl, mm⟩
   exact ⟨_, g, rfl, ⟨⟨s0.trans mm, mm.cellAt s1, mm.cellAt s2, mm.cellAt s3, mm.cellAt s4, mm.cellAt s5, mm.cellAt s6, mm.cellAt s7, mm.cellAt s8, mm.cellAt s9, mm.cellAt s10, mm.cellAt s11, mm.cellAt s12, mm.cellAt s13, mm.cellAt s14⟩, hB.mk0 mm⟩, BxX.same mm, rfl⟩
 try simp only [Act.put, List.getElem_toArray, List.getElem_cons_succ, List.getElem_cons_zero, List.setIfInBounds_toArray, List.set_cons_zero, List.set_cons_succ]
 refine WkG.value (m := 8) (k := 4) (by decide) rfl rfl (of_decide_eq_true (by rfl)) rfl (fun g w hS hF => ?_) (fun v4 => ?_)
 · obtain ⟨⟨s0, s1, s2, s3, s4, s5, s6, s7, s8, s9, s10, s11, s12, s13, s14⟩, hB⟩ := hS
   exact ⟨.int .i64 a2, w, g, (by go_simp; try with_reducible rfl), ⟨⟨s0, s1, s2, s3, s4, s5, s6, s7, s8, s9, s10, s11, s12, s13, s14⟩, hB⟩, BxX.same (Mk.refl _ _ _), rfl⟩
 try simp only [Act.put, List.getElem_toArray, List.getElem_cons_succ, List.getElem_cons_zero, List.setIfInBounds_toArray, List.set_cons_zero, List.set_cons_succ]
 refine WkG.value (m := 7) (k := 5) (by decide) rfl rfl (of_decide_eq_true (by rfl)) rfl (fun g w hS hF => ?_) (fun v5 => ?_)
 · obtain ⟨⟨s0, s1, s2, s3, s4, s5, s6, s7, s8, s9, s10, s11, s12, s13, s14⟩, hB⟩ := hS
   exact ⟨.int .i64 a3, w, g, (by go_simp; try with_reducible rfl), ⟨⟨s0, s1, s2, s3, s4, s5, s6, s7, s8, s9, s10, s11, s12, s13, s14⟩, hB⟩, BxX.same (Mk.refl _ _ _), rfl⟩
 try simp only [Act.put, List.getElem_toArray, List.getElem_cons_succ, List.getElem_cons_zero, List.setIfInBounds_toArray, List.set_cons_zero, List.set_cons_succ]
 refine WkG.value (m := 6) (k := 6) (by decide) rfl rfl (of_decide_eq_true (by rfl)) rfl (fun g w hS hF => ?_) (fun v6 => ?_)
 · obtain ⟨⟨s0, s1, s2, s3, s4, s5, s6, s7, s8, s9, s10, s11, s12, s13, s14⟩, hB⟩ := hS
   exact ⟨.int .i64 a4, w, g, (by go_simp; try with_reducible rfl), ⟨⟨s0, s1, s2, s3, s4, s5, s6, s7, s8, s9, s10, s11, s12, s13, s14⟩, hB⟩, BxX.same (Mk.refl _ _ _), rfl⟩
 try simp only [Act.put, List.getElem_toArray, List.getElem_cons_succ, List.getElem_cons_zero, List.setIfInBounds_toArray, List.set_cons_zero, List.set_cons_succ]
 refine WkG.value (m := 5) (k := 7) (by decide) rfl rfl (of_decide_eq_true (by rfl)) rfl (fun g w hS hF => ?_) (fun v7 => ?_)
 · obtain ⟨⟨s0, s1, s2, s3, s4, s5, s6, s7, s8, s9, s10, s11, s12, s13, s14⟩, hB⟩ := hS
   exact ⟨.int .i64 a5, w, g, (by go_simp; try with_reducible rfl), ⟨⟨s0, s1, s2, s3, s4, s5, s6, s7, s8, s9, s10, s11, s12, s13, s14⟩, hB⟩, BxX.same (Mk.refl _ _ _), rfl⟩
 try simp only [Act.put, List.getElem_toArray, List.getElem_cons_succ, List.getElem_cons_zero, List.setIfInBounds_toArray, List.set_cons_zero, List.set_cons_succ]
 refine WkG.call (m := 4) (k := 8) (by decide) rfl rfl (of_decide_eq_true (by rfl)) rfl (fun g w hS hF => ?_) (fun v8 => ?_)
 · obtain ⟨⟨s0, s1, s2, s3, s4, s5, s6, s7, s8, s9, s10, s11, s12, s13, s14⟩, hB⟩ := hS
   have f1 : ∃ b0_0 b0_1, v1 = .agg #[.slice (some ⟨b0_0, 0, none⟩) n0_0 n0_0, .slice (some ⟨b0_1, 0, none⟩) n0_1 n0_1] ∧ HasAS w w.heap.size (some ⟨b0_0, 0, none⟩) n0_0 z0_0 ∧ HasLink w w.heap.size (some ⟨b0_1, 0, none⟩) n0_1 z0_1 := hF 1 (by rfl)
   obtain ⟨b0_0, b0_1, rfl, r0_0, r0_1⟩ := f1
   have f3 : v3 = .agg #[.int .i64 a1_0, .int .i64 a1_1, .int .i64 a1_2, .int .i64 a1_3] := hF 3 (by rfl)
   obtain rfl := f3
   have f4 : v4 = .int .i64 a2 := hF 4 (by rfl)
   obtain rfl := f4
   have f5 : v5 = .int .i64 a3 := hF 5 (by rfl)
   obtain rfl := f5
   have f6 : v6 = .int .i64 a4 := hF 6 (by rfl)
   obtain rfl := f6
   have f7 : v7 = .int .i64 a5 := hF 7 (by rfl)
   obtain rfl := f7
   refine ⟨_, _, (by go_simp; first | done | exact ⟨rfl, rfl⟩ | with_reducible rfl), ?_⟩
   have KK := implOriginate _ _ _ _ _ _ _ z0_0 z0_1 ⟨a1_0, a1_1, a1_2, a1_3⟩ a2 a3 a4 a5 w r0_0 r0_1 LQ hN0_0 hN0_1 f0_0 wx4 wx5 wx2 wx3 ((M11.trans s0).cellAt hg)
   rw [← hOB] at KK
   refine KK.mono ?_
   rintro e w' ⟨A, N, C, rfl, hc, ow, mm⟩
   exact ⟨_, g, rfl, ⟨⟨s0.trans mm, mm.cellAt s1, mm.cellAt s2, mm.cellAt s3, mm.cellAt s4, mm.cellAt s5, mm.cellAt s6, mm.cellAt s7, mm.cellAt s8, mm.cellAt s9, mm.cellAt s10, mm.cellAt s11, mm.cellAt s12, mm.cellAt s13, mm.cellAt s14⟩, hB.mk0 mm⟩, BxX.same mm, ⟨A, N, C, w.heap.size, w'.heap.size, rfl, hc, s0.size, mm.size, Nat.le_refl _, ow, BxA.of hB⟩⟩
 try simp only [Act.put, List.getElem_toArray, List.getElem_cons_succ, List.getElem_cons_zero, List.setIfInBounds_toArray, List.set_cons_zero, List.set_cons_succ]
 refine WkG.value (m := 3) (k := 9) (by decide) rfl rfl (of_decide_eq_true (by rfl)) rfl (fun g w hS hF => ?_) (fun v9 => ?_)
 · obtain ⟨⟨s0, s1, s2, s3, s4, s5, s6, s7, s8, s9, s10, s11, s12, s13, s14⟩, hB⟩ := hS
   have f8 : ∃ A N C lo hi, v8 = .tuple #[.agg #[.int .i64 (orT OB a4), .int .i64 (orT OB a5), .slice A N C], .bool OB] ∧ ((A = none → C = 0) ∧ N ≤ C) ∧ w11.heap.size ≤ lo ∧ lo ≤ hi ∧ hi ≤ w.heap.size ∧ OwnHop w lo hi A N (growR z0_0 ⟨a1_0, a1_1, a1_2, a1_3⟩ a4 a5 [] 0 a2 0 a3 OB) ∧ BxA g lo hi := hF 8 (by rfl)
   obtain ⟨A, N, C, lo, hi, rfl, h2, h3, h4, h5, h6, h7⟩ := f8
   exact ⟨.tuple #[.agg #[.int .i64 (orT OB a4), .int .i64 (orT OB a5), .slice A N C], .bool OB], w, g, (by go_simp; try with_reducible rfl), ⟨⟨s0, s1, s2, s3, s4, s5, s6, s7, s8, s9, s10, s11, s12, s13, s14⟩, hB⟩, BxX.same (Mk.refl _ _ _), ⟨A, N, C, lo, hi, rfl, h2, h3, h4, h5, h6, h7⟩⟩
 try simp only [Act.put, List.getElem_toArray, List.getElem_cons_succ, List.getElem_cons_zero, List.setIfInBounds_toArray, List.set_cons_zero, List.set_cons_succ]
 refine WkG.value (m := 2) (k := 10) (by decide) rfl rfl (of_decide_eq_true (by rfl)) rfl (fun g w hS hF => ?_) (fun v10 => ?_)
 · obtain ⟨⟨s0, s1, s2, s3, s4, s5, s6, s7, s8, s9, s10, s11, s12, s13, s14⟩, hB⟩ := hS
   have f9 : ∃ A N C lo hi, v9 = .tuple #[.agg #[.int .i64 (orT OB a4), .int .i64 (orT OB a5), .slice A N C], .bool OB] ∧ ((A = none → C = 0) ∧ N ≤ C) ∧ w11.heap.size ≤ lo ∧ lo ≤ hi ∧ hi ≤ w.heap.size ∧ OwnHop w lo hi A N (growR z0_0 ⟨a1_0, a1_1, a1_2, a1_3⟩ a4 a5 [] 0 a2 0 a3 OB) ∧ BxA g lo hi := hF 9 (by rfl)
   obtain ⟨A, N, C, lo, hi, rfl, h2, h3, h4, h5, h6, h7⟩ := f9
   exact ⟨.agg #[.int .i64 (orT OB a4), .int .i64 (orT OB a5), .slice A N C], w, g, (by go_simp; try with_reducible rfl), ⟨⟨s0, s1, s2, s3, s4, s5, s6, s7, s8, s9, s10, s11, s12, s13, s14⟩, hB⟩, BxX.same (Mk.refl _ _ _), ⟨A, N, C, lo, hi, rfl, h2, h3, h4, h5, h6, h7⟩⟩
 try simp only [Act.put, List.getElem_toArray, List.getElem_cons_succ, List.getElem_cons_zero, List.setIfInBounds_toArray, List.set_cons_zero, List.set_cons_succ]
 refine WkG.pure (m := 1) (k := 11) (fun _ _ => BxX.same (Mk.refl _ _ _)) rfl rfl (of_decide_eq_true (by rfl)) rfl (fun g w hS hF => ?_) (fun v11 => ?_)
 · obtain ⟨⟨s0, s1, s2, s3, s4, s5, s6, s7, s8, s9, s10, s11, s12, s13, s14⟩, hB⟩ := hS
   have f9 : ∃ A N C lo hi, v9 = .tuple #[.agg #[.int .i64 (orT OB a4), .int .i64 (orT OB a5), .slice A N C], .bool OB] ∧ ((A = none → C = 0) ∧ N ≤ C) ∧ w11.heap.size ≤ lo ∧ lo ≤ hi ∧ hi ≤ w.heap.size ∧ OwnHop w lo hi A N (growR z0_0 ⟨a1_0, a1_1, a1_2, a1_3⟩ a4 a5 [] 0 a2 0 a3 OB) ∧ BxA g lo hi := hF 9 (by rfl)
   obtain ⟨A, N, C, lo, hi, rfl, h2, h3, h4, h5, h6, h7⟩ := f9
   exact ⟨.bool OB, (fun w' => (by go_simp; try with_reducible rfl)), rfl⟩
 try simp only [Act.put, List.getElem_toArray, List.getElem_cons_succ, List.getElem_cons_zero, List.setIfInBounds_toArray, List.set_cons_zero, List.set_cons_succ]
 refine WkG.value (m := 0) (k := 12) (by decide) rfl rfl (of_decide_eq_true (by rfl)) rfl (fun g w hS hF => ?_) (fun v12 => ?_)
 · obtain ⟨⟨s0, s1, s2, s3, s4, s5, s6, s7, s8, s9, s10, s11, s12, s13, s14⟩, hB⟩ := hS
   have mm := Mk.alloc w (Obj.cells #[.int .i64 0, .int .i64 0, .slice none 0 0] 31)
   exact ⟨.pointer (some ⟨w.heap.size, 0, none⟩), (w.alloc (Obj.cells #[.int .i64 0, .int .i64 0, .slice none 0 0] 31)), bxP g 12 w.heap.size, (by go_simp; try with_reducible rfl), ⟨⟨s0.trans mm, mm.cellAt s1, mm.cellAt s2, mm.cellAt s3, mm.cellAt s4, mm.cellAt s5, mm.cellAt s6, mm.cellAt s7, mm.cellAt s8, mm.cellAt s9, mm.cellAt s10, mm.cellAt s11, mm.cellAt s12, mm.cellAt s13, mm.cellAt s14⟩, hB.put s0.size 12 (Obj.cells #[.int .i64 0, .int .i64 0, .slice none 0 0] 31)⟩, BxX.put 12 (Obj.cells #[.int .i64 0, .int .i64 0, .slice none 0 0] 31), BxZ.new g 12 [.int .i64 0, .int .i64 0, .slice none 0 0] 31 w⟩
 try simp only [Act.put, List.getElem_toArray, List.getElem_cons_succ, List.getElem_cons_zero, List.setIfInBounds_toArray, List.set_cons_zero, List.set_cons_succ]
 refine WkG.done fun gE wq12 hE hF => ?_
 clear k0_0 k0_1 k1_0 k1_1 k1_2 k1_3 xw0_0 xw0_1 xw0_2 xx0_0 xx0_1 xg0_0 xg0_1 xg0_2
 obtain ⟨⟨m12, k0_0, k0_1, k1_0, k1_1, k1_2, k1_3, xw0_0, xw0_1, xw0_2, xx0_0, xx0_1, xg0_0, xg0_1, xg0_2⟩, hBE⟩ := hE
 change wpAny _ _ _ _ 2 _ _ _
 have f10 : ∃ A N C lo hi, v10 = .agg #[.int .i64 (orT OB a4), .int .i64 (orT OB a5), .slice A N C] ∧ ((A = none → C = 0) ∧ N ≤ C) ∧ w11.heap.size ≤ lo ∧ lo ≤ hi ∧ hi ≤ wq12.heap.size ∧ OwnHop wq12 lo hi A N (growR z0_0 ⟨a1_0, a1_1, a1_2, a1_3⟩ a4 a5 [] 0 a2 0 a3 OB) ∧ BxA gE lo hi := hF 10 (by decide)
 obtain ⟨Ah0, Nh0, Ch0, loh0, hih0, rfl, hch0, hlh0, hmh0, hhh0, oh0, hAh0⟩ := f10
 have f11 : v11 = .bool OB := hF 11 (by decide)
 obtain rfl := f11
 have f12 : BxZ gE 12 [.int .i64 0, .int .i64 0, .slice none 0 0] v12 wq12 := hF 12 (by decide)
 obtain ⟨Bh0, hgh0, rfl, hlth0, hzh0, hfh0⟩ := f12
 have hsh0 := hAh0 12 Bh0 hgh0
 have hbh00 := hBE.lo 12 Bh0 hgh0
 have xh0_0 := hzh0 0 _ rfl
 have xh0_1 := hzh0 1 _ rfl
 have xh0_2 := hzh0 2 _ rfl
 clear hF
 refine wpAny_ready (rs := [13]) (by kernel_rfl) (by simp) ?_
 refine (AllReady.cons rfl (fun K hK => ?_) AllReady.nil)
 go_simp
 refine hK _ _ ?_
 clear hK K
 try simp only [Act.put, List.getElem_toArray, List.getElem_cons_succ, List.getElem_cons_zero, List.setIfInBounds_toArray, List.set_cons_zero, List.set_cons_succ]
 refine wpAny_ready (rs := [14]) (by kernel_rfl) (by simp) ?_
 refine (AllReady.cons rfl (fun K hK => ?_) AllReady.nil)
 go_simp
 refine hK _ _ ?_
 clear hK K
 try simp only [Act.put, List.getElem_toArray, List.getElem_cons_succ, List.getElem_cons_zero, List.setIfInBounds_toArray, List.set_cons_zero, List.set_cons_succ]
 have yn0 : Bh0 ≠ w.heap.size := by omega
 have yn1 : Bh0 ≠ w.heap.size + 1 := by omega
 have yn2 : Bh0 ≠ Bw0 := by omega
 have yn3 : Bh0 ≠ w3.heap.size := by omega
 have yn4 : Bh0 ≠ Bg0 := by omega
 replace xh0_0 := World.cell?_setCell_same _ _ (.int .i64 (orT OB a4)) xh0_0
 replace xh0_1 := cell_set xh0_1 ⟨Bh0, 0, none⟩ (.int .i64 (orT OB a4)) (.inr (by simp))
 replace xh0_2 := cell_set xh0_2 ⟨Bh0, 0, none⟩ (.int .i64 (orT OB a4)) (.inr (by simp))
 replace k0_0 := cell_set k0_0 ⟨Bh0, 0, none⟩ (.int .i64 (orT OB a4)) (.inl yn0)
 replace k0_1 := cell_set k0_1 ⟨Bh0, 0, none⟩ (.int .i64 (orT OB a4)) (.inl yn0)
 replace k1_0 := cell_set k1_0 ⟨Bh0, 0, none⟩ (.int .i64 (orT OB a4)) (.inl yn1)
 replace k1_1 := cell_set k1_1 ⟨Bh0, 0, none⟩ (.int .i64 (orT OB a4)) (.inl yn1)
 replace k1_2 := cell_set k1_2 ⟨Bh0, 0, none⟩ (.int .i64 (orT OB a4)) (.inl yn1)
 replace k1_3 := cell_set k1_3 ⟨Bh0, 0, none⟩ (.int .i64 (orT OB a4)) (.inl yn1)
 replace xw0_0 := cell_set xw0_0 ⟨Bh0, 0, none⟩ (.int .i64 (orT OB a4)) (.inl yn2)
 replace xw0_1 := cell_set xw0_1 ⟨Bh0, 0, none⟩ (.int .i64 (orT OB a4)) (.inl yn2)
 replace xw0_2 := cell_set xw0_2 ⟨Bh0, 0, none⟩ (.int .i64 (orT OB a4)) (.inl yn2)
 replace xx0_0 := cell_set xx0_0 ⟨Bh0, 0, none⟩ (.int .i64 (orT OB a4)) (.inl yn3)
 replace xx0_1 := cell_set xx0_1 ⟨Bh0, 0, none⟩ (.int .i64 (orT OB a4)) (.inl yn3)
 replace xg0_0 := cell_set xg0_0 ⟨Bh0, 0, none⟩ (.int .i64 (orT OB a4)) (.inl yn4)
 replace xg0_1 := cell_set xg0_1 ⟨Bh0, 0, none⟩ (.int .i64 (orT OB a4)) (.inl yn4)
 replace xg0_2 := cell_set xg0_2 ⟨Bh0, 0, none⟩ (.int .i64 (orT OB a4)) (.inl yn4)
 replace oh0 := oh0.set ⟨Bh0, 0, none⟩ (.int .i64 (orT OB a4)) hsh0
 replace m12 := m12.put ⟨Bh0, 0, none⟩ (.int .i64 (orT OB a4)) hbh00
 replace xh0_0 := cell_set xh0_0 ⟨Bh0, 1, none⟩ (.int .i64 (orT OB a5)) (.inr (by simp))
 replace xh0_1 := World.cell?_setCell_same _ _ (.int .i64 (orT OB a5)) xh0_1
 replace xh0_2 := cell_set xh0_2 ⟨Bh0, 1, none⟩ (.int .i64 (orT OB a5)) (.inr (by simp))
 replace k0_0 := cell_set k0_0 ⟨Bh0, 1, none⟩ (.int .i64 (orT OB a5)) (.inl yn0)
 replace k0_1 := cell_set k0_1 ⟨Bh0, 1, none⟩ (.int .i64 (orT OB a5)) (.inl yn0)
 replace k1_0 := cell_set k1_0 ⟨Bh0, 1, none⟩ (.int .i64 (orT OB a5)) (.inl yn1)
 replace k1_1 := cell_set k1_1 ⟨Bh0, 1, none⟩ (.int .i64 (orT OB a5)) (.inl yn1)
 replace k1_2 := cell_set k1_2 ⟨Bh0, 1, none⟩ (.int .i64 (orT OB a5)) (.inl yn1)
 replace k1_3 := cell_set k1_3 ⟨Bh0, 1, none⟩ (.int .i64 (orT OB a5)) (.inl yn1)
 replace xw0_0 := cell_set xw0_0 ⟨Bh0, 1, none⟩ (.int .i64 (orT OB a5)) (.inl yn2)
 replace xw0_1 := cell_set xw0_1 ⟨Bh0, 1, none⟩ (.int .i64 (orT OB a5)) (.inl yn2)
 replace xw0_2 := cell_set xw0_2 ⟨Bh0, 1, none⟩ (.int .i64 (orT OB a5)) (.inl yn2)
 replace xx0_0 := cell_set xx0_0 ⟨Bh0, 1, none⟩ (.int .i64 (orT OB a5)) (.inl yn3)
 replace xx0_1 := cell_set xx0_1 ⟨Bh0, 1, none⟩ (.int .i64 (orT OB a5)) (.inl yn3)
 replace xg0_0 := cell_set xg0_0 ⟨Bh0, 1, none⟩ (.int .i64 (orT OB a5)) (.inl yn4)
 replace xg0_1 := cell_set xg0_1 ⟨Bh0, 1, none⟩ (.int .i64 (orT OB a5)) (.inl yn4)
 replace xg0_2 := cell_set xg0_2 ⟨Bh0, 1, none⟩ (.int .i64 (orT OB a5)) (.inl yn4)
 replace oh0 := oh0.set ⟨Bh0, 1, none⟩ (.int .i64 (orT OB a5)) hsh0
 replace m12 := m12.put ⟨Bh0, 1, none⟩ (.int .i64 (orT OB a5)) hbh00
 replace xh0_0 := cell_set xh0_0 ⟨Bh0, 2, none⟩ (.slice Ah0 Nh0 Ch0) (.inr (by simp))
 replace xh0_1 := cell_set xh0_1 ⟨Bh0, 2, none⟩ (.slice Ah0 Nh0 Ch0) (.inr (by simp))
 replace xh0_2 := World.cell?_setCell_same _ _ (.slice Ah0 Nh0 Ch0) xh0_2
 replace k0_0 := cell_set k0_0 ⟨Bh0, 2, none⟩ (.slice Ah0 Nh0 Ch0) (.inl yn0)
 replace k0_1 := cell_set k0_1 ⟨Bh0, 2, none⟩ (.slice Ah0 Nh0 Ch0) (.inl yn0)
 replace k1_0 := cell_set k1_0 ⟨Bh0, 2, none⟩ (.slice Ah0 Nh0 Ch0) (.inl yn1)
 replace k1_1 := cell_set k1_1 ⟨Bh0, 2, none⟩ (.slice Ah0 Nh0 Ch0) (.inl yn1)
 replace k1_2 := cell_set k1_2 ⟨Bh0, 2, none⟩ (.slice Ah0 Nh0 Ch0) (.inl yn1)
 replace k1_3 := cell_set k1_3 ⟨Bh0, 2, none⟩ (.slice Ah0 Nh0 Ch0) (.inl yn1)
 replace xw0_0 := cell_set xw0_0 ⟨Bh0, 2, none⟩ (.slice Ah0 Nh0 Ch0) (.inl yn2)
 replace xw0_1 := cell_set xw0_1 ⟨Bh0, 2, none⟩ (.slice Ah0 Nh0 Ch0) (.inl yn2)
 replace xw0_2 := cell_set xw0_2 ⟨Bh0, 2, none⟩ (.slice Ah0 Nh0 Ch0) (.inl yn2)
 replace xx0_0 := cell_set xx0_0 ⟨Bh0, 2, none⟩ (.slice Ah0 Nh0 Ch0) (.inl yn3)
 replace xx0_1 := cell_set xx0_1 ⟨Bh0, 2, none⟩ (.slice Ah0 Nh0 Ch0) (.inl yn3)
 replace xg0_0 := cell_set xg0_0 ⟨Bh0, 2, none⟩ (.slice Ah0 Nh0 Ch0) (.inl yn4)
 replace xg0_1 := cell_set xg0_1 ⟨Bh0, 2, none⟩ (.slice Ah0 Nh0 Ch0) (.inl yn4)
 replace xg0_2 := cell_set xg0_2 ⟨Bh0, 2, none⟩ (.slice Ah0 Nh0 Ch0) (.inl yn4)
 replace oh0 := oh0.set ⟨Bh0, 2, none⟩ (.slice Ah0 Nh0 Ch0) hsh0
 replace m12 := m12.put ⟨Bh0, 2, none⟩ (.slice Ah0 Nh0 Ch0) hbh00
 have zq : (((wq12.setCell ⟨Bh0, 0, none⟩ (.int .i64 (orT OB a4))).setCell ⟨Bh0, 1, none⟩ (.int .i64 (orT OB a5))).setCell ⟨Bh0, 2, none⟩ (.slice Ah0 Nh0 Ch0)).heap.size = wq12.heap.size := by simp only [World.size_set]
 clear hzh0 hfh0 hAh0 hgh0 hBE
 generalize (((wq12.setCell ⟨Bh0, 0, none⟩ (.int .i64 (orT OB a4))).setCell ⟨Bh0, 1, none⟩ (.int .i64 (orT OB a5))).setCell ⟨Bh0, 2, none⟩ (.slice Ah0 Nh0 Ch0)) = w12 at *
 rw [← zq] at hhh0 hlth0
 clear zq
 clear yn0 yn1 yn2 yn3 yn4
 refine wpAny_doneN (by kernel_rfl) ?_
 refine ‹∀ (a : Act) (w : World), _ → _› _ _ ?_
 clear hN0_0 hN0_1 yr12_0 yr12_1 yr12_2 yr12_3 yr12_4
 obtain rfl : Nw0 = Nh0 := ow0.1.symm.trans oh0.1
 replace ow0 := ow0.mk m12 (by omega) (.inr LR)
 replace og0 := og0.mk m12 (by omega) (.inr LR)
 have M12 := M11.trans m12
 have z12 := m12.size
 go_wp2_with fail
 refine (eqSegmentC _ _ _ _ _ _ _ _ _ _ _ oh0.has ow0.has (by omega) (by omega) (by omega)).mono ?_
 rintro e w13 ⟨rfl, m13⟩
 have M13 := M12.trans m13
 have z13 := m13.size
 replace k0_0 := m13.cellAt k0_0
 replace k0_1 := m13.cellAt k0_1
 replace k1_0 := m13.cellAt k1_0
 replace k1_1 := m13.cellAt k1_1
 replace k1_2 := m13.cellAt k1_2
 replace k1_3 := m13.cellAt k1_3
 replace xw0_0 := m13.cellAt xw0_0
 replace xw0_1 := m13.cellAt xw0_1
 replace xw0_2 := m13.cellAt xw0_2
 replace xx0_0 := m13.cellAt xx0_0
 replace xx0_1 := m13.cellAt xx0_1
 replace xg0_0 := m13.cellAt xg0_0
 replace xg0_1 := m13.cellAt xg0_1
 replace xg0_2 := m13.cellAt xg0_2
 replace xh0_0 := m13.cellAt xh0_0
 replace xh0_1 := m13.cellAt xh0_1
 replace xh0_2 := m13.cellAt xh0_2
 replace ow0 := ow0.mk m13 (by omega) (.inr LR)
 replace og0 := og0.mk m13 (by omega) (.inr LR)
 replace oh0 := oh0.mk m13 (by omega) (.inr LR)
 go_wp2_with fail
 refine (heldSegmentK _ _ _ _ _ _ _ _ og0.has (by omega) (by omega) (by omega) (by omega)).mono ?_
 rintro e w14 ⟨rfl, m14⟩
 have M14 := M13.trans m14
 have z14 := m14.size
 replace k0_0 := m14.cellAt k0_0
 replace k0_1 := m14.cellAt k0_1
 replace k1_0 := m14.cellAt k1_0
 replace k1_1 := m14.cellAt k1_1
 replace k1_2 := m14.cellAt k1_2
 replace k1_3 := m14.cellAt k1_3
 replace xw0_0 := m14.cellAt xw0_0
 replace xw0_1 := m14.cellAt xw0_1
 replace xw0_2 := m14.cellAt xw0_2
 replace xx0_0 := m14.cellAt xx0_0
 replace xx0_1 := m14.cellAt xx0_1
 replace xg0_0 := m14.cellAt xg0_0
 replace xg0_1 := m14.cellAt xg0_1
 replace xg0_2 := m14.cellAt xg0_2
 replace xh0_0 := m14.cellAt xh0_0
 replace xh0_1 := m14.cellAt xh0_1
 replace xh0_2 := m14.cellAt xh0_2
 replace ow0 := ow0.mk m14 (by omega) (.inr LR)
 replace og0 := og0.mk m14 (by omega) (.inr LR)
 replace oh0 := oh0.mk m14 (by omega) (.inr LR)
 go_wp2_with fail
 go_ret
 exact ⟨rfl, M14.below0⟩

set_option maxRecDepth 100000 in
theorem contract (H : Type) (enc : TypeId × Value → H) (W : World) (base : Nat) (args : Array Value) (ds gs : List (DataW H)) (before : List MemPlace)
    (hval0 : ∀ (j : Nat) t v, Tryz.f3.params[j]? = some t → args[j]? = some v → Value.okWide Tryz.prog W .any base t v)
    (hW : DataW.Whole enc Tryz.prog Tryz.f3.params.toList Rows.fnExactOriginateSpec.vars false W args.toList ds gs before) (hL : laidMetH Tryz.prog Rows.fnExactOriginateRow.laid W) :
    Calls Tryz.prog 3 args W fun e W' => ∃ v, e = .returned v ∧ Rows.fnExactOriginateSpec.post enc Tryz.prog Tryz.f3 false true false false W args v W' := by
  have hval : ∀ (j : Nat) t v, Tryz.f3.params[j]? = some t → args[j]? = some v → Value.okWide Tryz.prog W .any base t v := hval0
  have hW' := hW
  obtain ⟨p, q, hA0, hV, rfl, hfz, hnd⟩ := hW
  have hA : DataW.TrodAll enc Tryz.prog W 0 (fun _ => true) true Tryz.f3.params.toList args.toList ds p := hA0
  rw [Tryz.params3] at hA hval
  obtain ⟨v0, vs0, d0, ds0, p0, q0, hargs, rfl, rfl, h0, r0⟩ := trodAll_cons hA
  obtain ⟨v1, vs1, d1, ds1, p1, q1, rfl, rfl, rfl, h1, r1⟩ := trodAll_cons r0
  obtain ⟨v2, vs2, d2, ds2, p2, q2, rfl, rfl, rfl, h2, r2⟩ := trodAll_cons r1
  obtain ⟨v3, vs3, d3, ds3, p3, q3, rfl, rfl, rfl, h3, r3⟩ := trodAll_cons r2
  obtain ⟨v4, vs4, d4, ds4, p4, q4, rfl, rfl, rfl, h4, r4⟩ := trodAll_cons r3
  obtain ⟨v5, vs5, d5, ds5, p5, q5, rfl, rfl, rfl, h5, r5⟩ := trodAll_cons r4
  obtain ⟨rfl, rfl, rfl⟩ := trodAll_nil r5
  obtain rfl : args = #[v0, v1, v2, v3, v4, v5] := by cases args; simp_all
  obtain ⟨rfl, rfl⟩ := trodVars_none hV
  have k0 := h0
  have lt0 : ∀ x ∈ p0, x.block < W.heap.size := by obtain ⟨m, hm⟩ := k0; exact DataW.trod_lt m _ _ _ hm
  obtain ⟨cs0, rfl, hcs0, hf0⟩ := open_agg Tryz.underlying25 (by kernel_rfl) (by kernel_rfl) (hval 0 25 v0 rfl rfl) h0
  obtain ⟨_, _, _, e0_0, q0_0⟩ := hf0 0 _ rfl
  obtain ⟨a0_0, n0_0, c0_0, z0_0, rfl, m0_0, h0_0, f0_0⟩ := openASS q0_0
  obtain ⟨_, _, _, e0_1, q0_1⟩ := hf0 1 _ rfl
  obtain ⟨a0_1, n0_1, c0_1, z0_1, rfl, m0_1, h0_1, f0_1⟩ := openLinkS q0_1
  obtain rfl : cs0 = #[.slice a0_0 n0_0 c0_0, .slice a0_1 n0_1 c0_1] := arr_of [.slice a0_0 n0_0 c0_0, .slice a0_1 n0_1 c0_1] hcs0 (fun j hj => by match j, hj with | 0, _ => exact e0_0 | 1, _ => exact e0_1)
  have k1 := h1
  have lt1 : ∀ x ∈ p1, x.block < W.heap.size := by obtain ⟨m, hm⟩ := k1; exact DataW.trod_lt m _ _ _ hm
  obtain ⟨cs1, rfl, hcs1, hf1⟩ := open_flat Tryz.underlying27 (by kernel_rfl) (by kernel_rfl) (hval 1 27 v1 rfl rfl) h1
  obtain ⟨_, e1_0, qi, _⟩ := hf1 0 _ rfl; obtain ⟨a1_0, rfl, w1_0⟩ := qi Tryz.underlying3
  obtain ⟨_, e1_1, qi, _⟩ := hf1 1 _ rfl; obtain ⟨a1_1, rfl, w1_1⟩ := qi Tryz.underlying3
  obtain ⟨_, e1_2, qi, _⟩ := hf1 2 _ rfl; obtain ⟨a1_2, rfl, w1_2⟩ := qi Tryz.underlying3
  obtain ⟨_, e1_3, qi, _⟩ := hf1 3 _ rfl; obtain ⟨a1_3, rfl, w1_3⟩ := qi Tryz.underlying3
  obtain rfl : cs1 = #[.int .i64 a1_0, .int .i64 a1_1, .int .i64 a1_2, .int .i64 a1_3] := arr_of [.int .i64 a1_0, .int .i64 a1_1, .int .i64 a1_2, .int .i64 a1_3] hcs1 (fun j hj => by match j, hj with | 0, _ => exact e1_0 | 1, _ => exact e1_1 | 2, _ => exact e1_2 | 3, _ => exact e1_3)
  obtain ⟨a2, rfl, rfl, rfl, w2⟩ := open_int Tryz.underlying3 (hval 2 3 v2 rfl rfl) h2
  obtain ⟨a3, rfl, rfl, rfl, w3⟩ := open_int Tryz.underlying3 (hval 3 3 v3 rfl rfl) h3
  obtain ⟨a4, rfl, rfl, rfl, w4⟩ := open_int Tryz.underlying3 (hval 4 3 v4 rfl rfl) h4
  obtain ⟨a5, rfl, rfl, rfl, w5⟩ := open_int Tryz.underlying3 (hval 5 3 v5 rfl rfl) h5
  clear hA0 hval0
  refine (walk a0_0 n0_0 c0_0 z0_0 a0_1 n0_1 c0_1 z0_1 a1_0 a1_1 a1_2 a1_3 a2 a3 a4 a5 W h0_0 m0_0 f0_0 h0_1 m0_1 f0_1 w1_0 w1_1 w1_2 w1_3 w2 w3 w4 w5 (table hL)).mono fun e W' ⟨he, bel⟩ => ?_
  subst he
  exact ⟨_, rfl, _, _, _, [], _, [], hW', trodAll_mk1 (shut_bool Tryz.underlying4 _), (trodAll_cons_mk (Below.trod laidOut (by kernel_rfl) (of_decide_eq_true (by kernel_rfl)) k0 bel lt0) (trodAll_cons_mk (Below.trod laidOut (by kernel_rfl) (of_decide_eq_true (by kernel_rfl)) k1 bel lt1) (trodAll_cons_mk (shut_int Tryz.underlying3 w2) (trodAll_cons_mk (shut_int Tryz.underlying3 w3) (trodAll_cons_mk (shut_int Tryz.underlying3 w4) (trodAll_cons_mk (shut_int Tryz.underlying3 w5) trodAll_mk0)))))), rfl, bel.frame _, fun h => by cases h⟩

noncomputable def laidWorld (os : Os) : World :=
  { World.holding Tryz.prog os ⟨#[], #[], []⟩ with heap := ((World.holding Tryz.prog os ⟨#[], #[], []⟩).heap.modify 0 fun | .cells _ t frozen => .cells #[.iface 161 (.agg #[.pointer (some ⟨1, 139, none⟩)])] t frozen | o => o) }
theorem laid_met (os : Os) : laidMetH Tryz.prog Rows.fnExactOriginateRow.laid ((laidWorld os).forCall (fun _ _ => 0) ⟨#[], #[.agg #[.slice none 0 0, .slice none 0 0], .agg #[.int .i64 0, .int .i64 0, .int .i64 0, .int .i64 0], .int .i64 0, .int .i64 0, .int .i64 0, .int .i64 0], []⟩).memory :=
  laidMetH_of_parts (laidMet_nil _ _) (by kernel_rfl)
theorem reads (os : Os) {H : Type} (enc : TypeId × Value → H) : ∃ places, DataW.whole enc Tryz.prog ((laidWorld os).forCall (fun _ _ => 0) ⟨#[], #[.agg #[.slice none 0 0, .slice none 0 0], .agg #[.int .i64 0, .int .i64 0, .int .i64 0, .int .i64 0], .int .i64 0, .int .i64 0, .int .i64 0, .int .i64 0], []⟩).memory Tryz.f3.params.toList Rows.fnExactOriginateSpec.vars false #[.agg #[.slice none 0 0, .slice none 0 0], .agg #[.int .i64 0, .int .i64 0, .int .i64 0, .int .i64 0], .int .i64 0, .int .i64 0, .int .i64 0, .int .i64 0].toList 8 = some ([.agg [.nil, .nil], .agg [.lit (.int .i64 0), .lit (.int .i64 0), .lit (.int .i64 0), .lit (.int .i64 0)], .lit (.int .i64 0), .lit (.int .i64 0), .lit (.int .i64 0), .lit (.int .i64 0)], [], places) :=
  ⟨[], by kernel_rfl⟩
set_option maxRecDepth 100000 in
theorem lifted (os : Os) (started : os.Started) (H : Type) (enc : TypeId × Value → H) (F : Stop.Interp) :
    ReturnsInHanded {} Tryz.checked os 3 .any ((OpenSpec.ofChange Rows.fnExactOriginateSpec).preRow enc Tryz.prog Tryz.f3 Rows.fnExactOriginateRow.domain false Rows.fnExactOriginateRow.laid) (((OpenSpec.ofChange Rows.fnExactOriginateSpec).at F).post enc Tryz.prog Tryz.f3 false true false false) := by
  obtain ⟨places, hx⟩ := reads os enc
  refine returnsInHanded_of_row (C := Tryz.checked) (s := (OpenSpec.ofChange Rows.fnExactOriginateSpec)) own started (by kernel_rfl) Tryz.func3
    (witness_row_at (enc := enc) (C := Tryz.checked) false (laidWorld os) #[.agg #[.slice none 0 0, .slice none 0 0], .agg #[.int .i64 0, .int .i64 0, .int .i64 0, .int .i64 0], .int .i64 0, .int .i64 0, .int .i64 0, .int .i64 0] rfl (by kernel_rfl) (by kernel_rfl) (by kernel_rfl)
      (OpenSpec.preRow_of_cond 8 hx (by kernel_rfl) (fun k hk => by cases hk) (by kernel_rfl) (laid_met os))) ?_
  intro W base args ds gs before hval hW _ _ _ hL _ _
  exact contract H enc W base args ds gs before hval hW hL

theorem said : Rows.FnExactOriginateSaid :=
  OpenClaim.holds_of_cond 3 Tryz.f3 rfl rfl rfl rfl rfl rfl rfl ⟨rfl, rfl, rfl, rfl, rfl⟩ rfl rfl rfl rfl rfl (by kernel_rfl) Tryz.func3 (by kernel_rfl)
    (of_decide_eq_true (by kernel_rfl)) (by unfold Func.isWrapper; first | (rw [if_pos (by decide +kernel)]; kernel_rfl) | (rw [if_neg (by decide +kernel)]; exact ⟨rfl, rfl⟩))
    (fun os started H enc _ F => by rw [OpenClaim.pre_eq_preRow]; exact lifted os started H enc F)
theorem plain (f : FuncId) (fn : Func) (hf : Tryz.pinned.checked.prog.funcNamed "loop.example/g00505/laws.FnExactOriginate" = some f) (hfn : Tryz.pinned.checked.prog.funcs[f]? = some fn) :
    true = Tryz.pinned.checked.prog.looks [] ∧ ∀ (j : Nat) t, fn.params[j]? = some t → Tryz.pinned.checked.prog.wantsStandIn t = false := by
  obtain rfl : f = 3 := Option.some.inj ((show Tryz.prog.funcNamed "loop.example/g00505/laws.FnExactOriginate" = some 3 by kernel_rfl).symm.trans hf) |>.symm
  obtain rfl : fn = Tryz.f3 := (Option.some.inj (Tryz.func3.symm.trans hfn)).symm
  refine ⟨by kernel_rfl, fun j t ht => ?_⟩
  rw [Tryz.params3] at ht
  have ht' := Array.mem_of_getElem? ht
  simp only [List.mem_toArray, List.mem_cons, List.not_mem_nil, or_false] at ht'
  rcases ht' with rfl | rfl | rfl | rfl | rfl | rfl
  · exact (show Tryz.prog.wantsStandIn 25 = false by kernel_rfl)
  · exact (show Tryz.prog.wantsStandIn 27 = false by kernel_rfl)
  · exact (show Tryz.prog.wantsStandIn 3 = false by kernel_rfl)
  · exact (show Tryz.prog.wantsStandIn 3 = false by kernel_rfl)
  · exact (show Tryz.prog.wantsStandIn 3 = false by kernel_rfl)
  · exact (show Tryz.prog.wantsStandIn 3 = false by kernel_rfl)
theorem proved : Rows.FnExactOriginateCardSaid :=
  Claim7.holds_tied_plain_at .later [] _ _ _ _ said (fun _ h => by cases h) (by kernel_rfl) (fun _ h => by cases h) fnExactOriginate_row_tie rfl ⟨rfl, rfl⟩ (by kernel_rfl) rfl plain (by kernel_rfl)
#print axioms proved
end Go.Proofs.YtbbcpdgdihdmiaaGreatDoor.fnExactOriginate
