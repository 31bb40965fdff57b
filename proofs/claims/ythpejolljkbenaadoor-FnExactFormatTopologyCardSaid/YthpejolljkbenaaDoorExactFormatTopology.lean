
/- For every topology, the law on FormatTopology returns true, under the condition of what the row lays: the library's table of powers of ten holds what its text lays. -/
import Derived.Test.YthpejolljkbenaaDoorCards
import Derived.Test.YthpejolljkbenaaDoorTie
import Derived.Deep.DeepHandedRow
import Derived.Lib.LaidTab
import Derived.Test.YthpejolljkbenaaDoorRows
import Derived.WalkKit
import Derived.ProofKit
import Derived.OpenShut
import Derived.ShutString
import Derived.ChangeOld
import Derived.Below
import Derived.Test.YthpejolljkbenaaDoorOAS
import Derived.Test.YthpejolljkbenaaDoorZAS
import Derived.Test.YthpejolljkbenaaDoorOLink
import Derived.Test.YthpejolljkbenaaDoorZLink
import Derived.Test.YthpejolljkbenaaDoorStruct
import Derived.Deep.RegionHeld3
import Derived.Test.YthpejolljkbenaaDoorFtop
namespace Go.Proofs.YthpejolljkbenaaDoor.fnExactFormatTopology
open Go.ChangeShapes Go.WideShapes Go.ChangeAt Go.RowKit
open Go.ChangeMaps (open_string shut_string)
set_option linter.unusedVariables false

theorem own : ownKnob Tryd.prog.godebug = none := by kernel_rfl
theorem laidOut : laidOutB Tryd.prog = true := by kernel_rfl

theorem table {W : World} (hL : laidMetH Tryd.prog Rows.fnExactFormatTopologyRow.laid W) : Lib.TabIs Tryd.prog W "internal/strconv.uint64pow10" .u64 Lib.pow10Tab :=
  pow10_of (laid_drop2 (show laidMet Tryd.prog Rows.fnExactFormatTopologyRow.laid W from hL))

set_option maxRecDepth 100000 in
set_option maxHeartbeats 4000000 in
theorem walk (a0_0 : Option Addr) (n0_0 c0_0 : Nat) (z0_0 : List TAS) (a0_1 : Option Addr) (n0_1 c0_1 : Nat) (z0_1 : List TLink) (w : World) (h0_0 : HasAS w w.heap.size a0_0 n0_0 z0_0) (m0_0 : n0_0 ≤ 9223372036854775807) (f0_0 : ∀ x ∈ z0_0, TAS.fits x) (h0_1 : HasLink w w.heap.size a0_1 n0_1 z0_1) (m0_1 : n0_1 ≤ 9223372036854775807) (f0_1 : ∀ x ∈ z0_1, TLink.fits x) (htab : Lib.TabIs Tryd.prog w "internal/strconv.uint64pow10" .u64 Lib.pow10Tab) :
    Calls Tryd.prog 3 #[.agg #[.slice a0_0 n0_0 c0_0, .slice a0_1 n0_1 c0_1]] w fun e w' => e = .returned (.bool true) ∧ Below w.heap.size w w' := by
  by_cases hbig0 : (1048576 : Int) < (n0_0 : Int) + (n0_1 : Int)
  · go_enter Tryd.func3, Tryd.ntmps3
    go_wp2_with fail
    have M0 : Mk0 w (w.alloc (Obj.cells #[Value.slice a0_0 n0_0 c0_0, Value.slice a0_1 n0_1 c0_1] 25)) := (Mk.alloc w _)
    have k0_0 : (w.alloc (Obj.cells #[Value.slice a0_0 n0_0 c0_0, Value.slice a0_1 n0_1 c0_1] 25)).cell? ⟨w.heap.size, 0, none⟩ = some (.slice a0_0 n0_0 c0_0) := by simp [go_sem]
    have k0_1 : (w.alloc (Obj.cells #[Value.slice a0_0 n0_0 c0_0, Value.slice a0_1 n0_1 c0_1] 25)).cell? ⟨w.heap.size, 1, none⟩ = some (.slice a0_1 n0_1 c0_1) := by simp [go_sem]
    refine (szTopologyB _ _ _ _ _ _ _ _ (by omega) (by omega) (by omega) m0_0 m0_1).mono ?_
    rintro e w1 ⟨rfl, m1⟩
    go_wp2_with fail
    go_ret
    exact ⟨rfl, (M0.trans m1).below0⟩
  have hn0 : (n0_0 : Int) + (n0_1 : Int) ≤ (1048576 : Int) := by omega
  clear hbig0
  go_enter Tryd.func3, Tryd.ntmps3
  go_wp2_with fail
  have M0 : Mk0 w (w.alloc (Obj.cells #[Value.slice a0_0 n0_0 c0_0, Value.slice a0_1 n0_1 c0_1] 25)) := (Mk.alloc w _)
  have k0_0 : (w.alloc (Obj.cells #[Value.slice a0_0 n0_0 c0_0, Value.slice a0_1 n0_1 c0_1] 25)).cell? ⟨w.heap.size, 0, none⟩ = some (.slice a0_0 n0_0 c0_0) := by simp [go_sem]
  have k0_1 : (w.alloc (Obj.cells #[Value.slice a0_0 n0_0 c0_0, Value.slice a0_1 n0_1 c0_1] 25)).cell? ⟨w.heap.size, 1, none⟩ = some (.slice a0_1 n0_1 c0_1) := by simp [go_sem]
  refine (szTopologyC _ _ _ _ _ _ _ _ (by omega) (by omega) (by omega)).mono ?_
  rintro e w1 ⟨l1, hl1, rfl, m1⟩
  have M1 := M0.trans m1
  replace k0_0 := m1.cellAt k0_0
  replace k0_1 := m1.cellAt k0_1
  have z1 := m1.size
  simp only [World.size_alloc] at z1
  go_wp2_with fail
  refine (toTopologyC _ _ _ _ _ _ _ _ w.heap.size _ (h0_0.mk M1 (Nat.le_refl _) (.inr (Nat.le_refl _))) (h0_1.mk M1 (Nat.le_refl _) (.inr (Nat.le_refl _))) (by omega) (by omega) (by omega)).mono ?_
  rintro e w2 ⟨b1, b2, d3, rfl, o4, o5, g6, g7, m2⟩
  have M2 := M1.trans m2
  have z2 := m2.size
  replace k0_0 := m2.cellAt k0_0
  replace k0_1 := m2.cellAt k0_1
  have h8 := o4.has.mono (B' := w2.heap.size) (by omega)
  clear o4
  have h9 := o5.has.mono (B' := w2.heap.size) (by omega)
  clear o5
  go_wp2_with fail
  refine (specFTop _ _ _ _ _ _ _ z0_0 z0_1 _ h8 (by omega) (by omega) f0_0 h9 (by omega) f0_1).mono ?_
  rintro e w3 ⟨rfl, m3⟩
  have M3 := M2.trans m3
  have z3 := m3.size
  replace k0_0 := m3.cellAt k0_0
  replace k0_1 := m3.cellAt k0_1
  replace h8 := h8.mk m3 (by omega) (.inr (Nat.le_refl _))
  replace h9 := h9.mk m3 (by omega) (.inr (Nat.le_refl _))
  go_wp2_with fail
  refine (toTopologyC _ _ _ _ _ _ _ _ w.heap.size _ (h0_0.mk M3 (Nat.le_refl _) (.inr (Nat.le_refl _))) (h0_1.mk M3 (Nat.le_refl _) (.inr (Nat.le_refl _))) (by omega) (by omega) (by omega)).mono ?_
  rintro e w4 ⟨b10, b11, d12, rfl, o13, o14, g15, g16, m4⟩
  have M4 := M3.trans m4
  have z4 := m4.size
  replace k0_0 := m4.cellAt k0_0
  replace k0_1 := m4.cellAt k0_1
  have h17 := o13.has.mono (B' := w4.heap.size) (by omega)
  clear o13
  have h18 := o14.has.mono (B' := w4.heap.size) (by omega)
  clear o14
  go_wp2_with fail
  have xx0_0 : (w4.alloc (Obj.cells #[Value.slice (some ⟨b10, 0, none⟩) n0_0 n0_0, Value.slice (some ⟨b11, 0, none⟩) n0_1 n0_1] 31)).cell? ⟨w4.heap.size, 0, none⟩ = some (.slice (some ⟨b10, 0, none⟩) n0_0 n0_0) := by rw [World.cell?_alloc_at _ _ _ _ rfl]; rfl
  have xx0_1 : (w4.alloc (Obj.cells #[Value.slice (some ⟨b10, 0, none⟩) n0_0 n0_0, Value.slice (some ⟨b11, 0, none⟩) n0_1 n0_1] 31)).cell? ⟨w4.heap.size, 1, none⟩ = some (.slice (some ⟨b11, 0, none⟩) n0_1 n0_1) := by rw [World.cell?_alloc_at _ _ _ _ rfl]; rfl
  refine (implFTop _ _ _ _ _ _ _ z0_0 z0_1 _ (h17.mk (Mk.alloc _ _) (by omega) (.inr (Nat.le_refl _))) (by rw [World.size_alloc]; omega) (by omega) f0_0 (h18.mk (Mk.alloc _ _) (by omega) (.inr (Nat.le_refl _))) (by omega) f0_1 (tab_mk htab (M4.trans (Mk.alloc _ _)))).mono ?_
  rintro e w5 ⟨rfl, m5⟩
  replace xx0_0 := m5.cellAt xx0_0
  replace xx0_1 := m5.cellAt xx0_1
  replace m5 := (Mk.alloc w4 _).trans m5
  have M5 := M4.trans m5
  have z5 := m5.size
  replace k0_0 := m5.cellAt k0_0
  replace k0_1 := m5.cellAt k0_1
  replace h17 := h17.mk m5 (by omega) (.inr (Nat.le_refl _))
  replace h18 := h18.mk m5 (by omega) (.inr (Nat.le_refl _))
  go_wp2_with fail
  have e19 : ∀ w', Mk0 w5 w' → HasAS w' w4.heap.size (some ⟨b10, 0, none⟩) n0_0 z0_0 := fun w' m => h17.mk m (by omega) (.inr (Nat.le_refl _))
  have e20 : ∀ w', Mk0 w5 w' → HasLink w' w4.heap.size (some ⟨b11, 0, none⟩) n0_1 z0_1 := fun w' m => h18.mk m (by omega) (.inr (Nat.le_refl _))
  have e21 : ∀ w', Mk0 w5 w' → w4.heap.size ≤ w'.heap.size := fun w' m => Nat.le_trans (by omega) m.size
  have e22 : ∀ w', Mk0 w5 w' → HasAS w' w.heap.size a0_0 n0_0 z0_0 := fun w' m => h0_0.mk (M5.trans m) (Nat.le_refl _) (.inr (Nat.le_refl _))
  have e23 : ∀ w', Mk0 w5 w' → HasLink w' w.heap.size a0_1 n0_1 z0_1 := fun w' m => h0_1.mk (M5.trans m) (Nat.le_refl _) (.inr (Nat.le_refl _))
  have hN0_0 : n0_0 ≤ 1048576 := by omega
  have hN0_1 : n0_1 ≤ 1048576 := by omega
  go_region_held3 (fun w' => Mk0 w5 w' ∧ w'.cell? ⟨w.heap.size, 0, none⟩ = some (.slice a0_0 n0_0 c0_0) ∧ w'.cell? ⟨w.heap.size, 1, none⟩ = some (.slice a0_1 n0_1 c0_1) ∧ w'.cell? ⟨w4.heap.size, 0, none⟩ = some (.slice (some ⟨b10, 0, none⟩) n0_0 n0_0) ∧ w'.cell? ⟨w4.heap.size, 1, none⟩ = some (.slice (some ⟨b11, 0, none⟩) n0_1 n0_1)) (first | exact ⟨Mk.drew1 _, k0_0, k0_1, xx0_0, xx0_1⟩ | (obtain ⟨s0, s1, s2, s3, s4⟩ := ‹Mk0 w5 _ ∧ _›; exact ⟨s0.trans mm, mm.cellAt s1, mm.cellAt s2, mm.cellAt s3, mm.cellAt s4⟩)) (first | (go_at_call 9; refine (toTopologyC _ _ _ _ _ _ _ _ w.heap.size _ (e22 _ (‹Mk0 w5 _ ∧ _›).1) (e23 _ (‹Mk0 w5 _ ∧ _›).1) (M5.trans (‹Mk0 w5 _ ∧ _›).1).size hN0_0 hN0_1).mono ?_; rintro e wa ⟨bb0, bb1, dd0, rfl, oo0, oo1, gg0, gg1, mm⟩) | (go_at_call 11; refine (eqTopologyC _ _ _ _ _ _ _ _ _ _ _ _ _ _ _ (e19 _ (‹Mk0 w5 _ ∧ _›).1) (e20 _ (‹Mk0 w5 _ ∧ _›).1) (oo0.has.mono gg1) (oo1.has.mono (Nat.le_refl _)) (e21 _ (‹Mk0 w5 _ ∧ _›).1) (Nat.le_refl _) hN0_0 hN0_1).mono ?_; rintro e wb6 ⟨rfl, mm⟩))
  obtain ⟨m6, k0_0, k0_1, xx0_0, xx0_1⟩ := ‹Mk0 w5 _ ∧ _›
  clear e19 e20 e21 e22 e23 hN0_0 hN0_1
  refine ‹∀ (a : Act) (w : World), _ → _› _ _ ?_
  have M6 := M5.trans m6
  have z6 := m6.size
  replace h17 := h17.mk m6 (by omega) (.inr (Nat.le_refl _))
  replace h18 := h18.mk m6 (by omega) (.inr (Nat.le_refl _))
  go_wp2_with fail
  go_ret
  exact ⟨rfl, M6.below0⟩

set_option maxRecDepth 100000 in
theorem contract (H : Type) (enc : TypeId × Value → H) (W : World) (base : Nat) (args : Array Value) (ds gs : List (DataW H)) (before : List MemPlace)
    (hval0 : ∀ (j : Nat) t v, Tryd.f3.params[j]? = some t → args[j]? = some v → Value.okWide Tryd.prog W .any base t v)
    (hW : DataW.Whole enc Tryd.prog Tryd.f3.params.toList Rows.fnExactFormatTopologySpec.vars false W args.toList ds gs before) (hL : laidMetH Tryd.prog Rows.fnExactFormatTopologyRow.laid W) :
    Calls Tryd.prog 3 args W fun e W' => ∃ v, e = .returned v ∧ Rows.fnExactFormatTopologySpec.post enc Tryd.prog Tryd.f3 false true false false W args v W' := by
  have hval : ∀ (j : Nat) t v, Tryd.f3.params[j]? = some t → args[j]? = some v → Value.okWide Tryd.prog W .any base t v := hval0
  have hW' := hW
  obtain ⟨p, q, hA0, hV, rfl, hfz, hnd⟩ := hW
  have hA : DataW.TrodAll enc Tryd.prog W 0 (fun _ => true) true Tryd.f3.params.toList args.toList ds p := hA0
  rw [Tryd.params3] at hA hval
  obtain ⟨v0, vs0, d0, ds0, p0, q0, hargs, rfl, rfl, h0, r0⟩ := trodAll_cons hA
  obtain ⟨rfl, rfl, rfl⟩ := trodAll_nil r0
  obtain rfl : args = #[v0] := by cases args; simp_all
  obtain ⟨rfl, rfl⟩ := trodVars_none hV
  have k0 := h0
  have lt0 : ∀ x ∈ p0, x.block < W.heap.size := by obtain ⟨m, hm⟩ := k0; exact DataW.trod_lt m _ _ _ hm
  obtain ⟨cs0, rfl, hcs0, hf0⟩ := open_agg Tryd.underlying25 (by kernel_rfl) (by kernel_rfl) (hval 0 25 v0 rfl rfl) h0
  obtain ⟨_, _, _, e0_0, q0_0⟩ := hf0 0 _ rfl
  obtain ⟨a0_0, n0_0, c0_0, z0_0, rfl, m0_0, h0_0, f0_0⟩ := openASS q0_0
  obtain ⟨_, _, _, e0_1, q0_1⟩ := hf0 1 _ rfl
  obtain ⟨a0_1, n0_1, c0_1, z0_1, rfl, m0_1, h0_1, f0_1⟩ := openLinkS q0_1
  obtain rfl : cs0 = #[.slice a0_0 n0_0 c0_0, .slice a0_1 n0_1 c0_1] := arr_of [.slice a0_0 n0_0 c0_0, .slice a0_1 n0_1 c0_1] hcs0 (fun j hj => by match j, hj with | 0, _ => exact e0_0 | 1, _ => exact e0_1)
  clear hA0 hval0
  refine (walk a0_0 n0_0 c0_0 z0_0 a0_1 n0_1 c0_1 z0_1 W h0_0 m0_0 f0_0 h0_1 m0_1 f0_1 (table hL)).mono fun e W' ⟨he, bel⟩ => ?_
  subst he
  exact ⟨_, rfl, _, _, _, [], _, [], hW', trodAll_mk1 (shut_bool Tryd.underlying4 _), (trodAll_cons_mk (Below.trod laidOut (by kernel_rfl) (of_decide_eq_true (by kernel_rfl)) k0 bel lt0) trodAll_mk0), rfl, bel.frame _, fun h => by cases h⟩

noncomputable def laidWorld (os : Os) : World :=
  { World.holding Tryd.prog os ⟨#[], #[], []⟩ with heap := ((((World.holding Tryd.prog os ⟨#[], #[], []⟩).heap.modify 2 fun | .cells _ t frozen => .cells #[.int .u8 0, .int .u8 1, .int .u8 28, .int .u8 2, .int .u8 29, .int .u8 14, .int .u8 24, .int .u8 3, .int .u8 30, .int .u8 22, .int .u8 20, .int .u8 15, .int .u8 25, .int .u8 17, .int .u8 4, .int .u8 8, .int .u8 31, .int .u8 27, .int .u8 13, .int .u8 23, .int .u8 21, .int .u8 19, .int .u8 16, .int .u8 7, .int .u8 26, .int .u8 12, .int .u8 18, .int .u8 6, .int .u8 11, .int .u8 5, .int .u8 10, .int .u8 9] t frozen | o => o).modify 3 fun | .cells _ t frozen => .cells #[.int .u8 0, .int .u8 1, .int .u8 56, .int .u8 2, .int .u8 57, .int .u8 49, .int .u8 28, .int .u8 3, .int .u8 61, .int .u8 58, .int .u8 42, .int .u8 50, .int .u8 38, .int .u8 29, .int .u8 17, .int .u8 4, .int .u8 62, .int .u8 47, .int .u8 59, .int .u8 36, .int .u8 45, .int .u8 43, .int .u8 51, .int .u8 22, .int .u8 53, .int .u8 39, .int .u8 33, .int .u8 30, .int .u8 24, .int .u8 18, .int .u8 12, .int .u8 5, .int .u8 63, .int .u8 55, .int .u8 48, .int .u8 27, .int .u8 60, .int .u8 41, .int .u8 37, .int .u8 16, .int .u8 46, .int .u8 35, .int .u8 44, .int .u8 21, .int .u8 52, .int .u8 32, .int .u8 23, .int .u8 11, .int .u8 54, .int .u8 26, .int .u8 40, .int .u8 15, .int .u8 34, .int .u8 20, .int .u8 31, .int .u8 10, .int .u8 25, .int .u8 14, .int .u8 19, .int .u8 9, .int .u8 13, .int .u8 8, .int .u8 7, .int .u8 6] t frozen | o => o).modify 1 fun | .cells _ t frozen => .cells #[.int .u64 1, .int .u64 10, .int .u64 100, .int .u64 1000, .int .u64 10000, .int .u64 100000, .int .u64 1000000, .int .u64 10000000, .int .u64 100000000, .int .u64 1000000000, .int .u64 10000000000, .int .u64 100000000000, .int .u64 1000000000000, .int .u64 10000000000000, .int .u64 100000000000000, .int .u64 1000000000000000, .int .u64 10000000000000000, .int .u64 100000000000000000, .int .u64 1000000000000000000, .int .u64 10000000000000000000] t frozen | o => o) }
theorem laid_met (os : Os) : laidMet Tryd.prog Rows.fnExactFormatTopologyRow.laid ((laidWorld os).forCall (fun _ _ => 0) ⟨#[], #[.agg #[.slice none 0 0, .slice none 0 0]], []⟩).memory :=
  laidMet_of_run' 8 (by kernel_rfl) (by kernel_rfl)
theorem reads (os : Os) {H : Type} (enc : TypeId × Value → H) : ∃ places, DataW.whole enc Tryd.prog ((laidWorld os).forCall (fun _ _ => 0) ⟨#[], #[.agg #[.slice none 0 0, .slice none 0 0]], []⟩).memory Tryd.f3.params.toList Rows.fnExactFormatTopologySpec.vars false #[.agg #[.slice none 0 0, .slice none 0 0]].toList 8 = some ([.agg [.nil, .nil]], [], places) :=
  ⟨[], by kernel_rfl⟩
set_option maxRecDepth 100000 in
theorem lifted (os : Os) (started : os.Started) (H : Type) (enc : TypeId × Value → H) (F : Stop.Interp) :
    ReturnsInHanded {} Tryd.checked os 3 .any ((OpenSpec.ofChange Rows.fnExactFormatTopologySpec).preRow enc Tryd.prog Tryd.f3 Rows.fnExactFormatTopologyRow.domain false Rows.fnExactFormatTopologyRow.laid) (((OpenSpec.ofChange Rows.fnExactFormatTopologySpec).at F).post enc Tryd.prog Tryd.f3 false true false false) := by
  obtain ⟨places, hx⟩ := reads os enc
  refine returnsInHanded_of_row (C := Tryd.checked) (s := (OpenSpec.ofChange Rows.fnExactFormatTopologySpec)) own started (by kernel_rfl) Tryd.func3
    (witness_row_at (enc := enc) (C := Tryd.checked) false (laidWorld os) #[.agg #[.slice none 0 0, .slice none 0 0]] rfl (by kernel_rfl) (by kernel_rfl) (by kernel_rfl)
      (OpenSpec.preRow_of_cond 8 hx (by kernel_rfl) (fun k hk => by cases hk) (by kernel_rfl) (laid_met os))) ?_
  intro W base args ds gs before hval hW _ _ _ hL _ _
  exact contract H enc W base args ds gs before hval hW hL

theorem said : Rows.FnExactFormatTopologySaid :=
  OpenClaim.holds_of_cond 3 Tryd.f3 rfl rfl rfl rfl rfl rfl rfl ⟨rfl, rfl, rfl, rfl, rfl⟩ rfl rfl rfl rfl rfl (by kernel_rfl) Tryd.func3 (by kernel_rfl)
    (of_decide_eq_true (by kernel_rfl)) (by unfold Func.isWrapper; first | (rw [if_pos (by decide +kernel)]; kernel_rfl) | (rw [if_neg (by decide +kernel)]; exact ⟨rfl, rfl⟩))
    (fun os started H enc _ F => by rw [OpenClaim.pre_eq_preRow]; exact lifted os started H enc F)
theorem plain (f : FuncId) (fn : Func) (hf : Tryd.pinned.checked.prog.funcNamed "loop.example/g00505/laws.FnExactFormatTopology" = some f) (hfn : Tryd.pinned.checked.prog.funcs[f]? = some fn) :
    true = Tryd.pinned.checked.prog.looks [] ∧ ∀ (j : Nat) t, fn.params[j]? = some t → Tryd.pinned.checked.prog.wantsStandIn t = false := by
  obtain rfl : f = 3 := Option.some.inj ((show Tryd.prog.funcNamed "loop.example/g00505/laws.FnExactFormatTopology" = some 3 by kernel_rfl).symm.trans hf) |>.symm
  obtain rfl : fn = Tryd.f3 := (Option.some.inj (Tryd.func3.symm.trans hfn)).symm
  refine ⟨by kernel_rfl, fun j t ht => ?_⟩
  rw [Tryd.params3] at ht
  have ht' := Array.mem_of_getElem? ht
  simp only [List.mem_toArray, List.mem_cons, List.not_mem_nil, or_false] at ht'
  rcases ht' with rfl
  exact (show Tryd.prog.wantsStandIn 25 = false by kernel_rfl)
theorem proved : Rows.FnExactFormatTopologyCardSaid :=
  Claim7.holds_tied_plain_at .later [] _ _ _ _ said (fun _ h => by cases h) (by kernel_rfl) (fun _ h => by cases h) fnExactFormatTopology_row_tie rfl ⟨rfl, rfl⟩ (by kernel_rfl) rfl plain (by kernel_rfl)
#print axioms proved
end Go.Proofs.YthpejolljkbenaaDoor.fnExactFormatTopology
