
/- For every topology, every list of links and every AS, the law on FailedInterfaces returns true; no further condition. -/
import Derived.Test.YtkmofhpipcodbaaRows
import Derived.WalkKit
import Derived.ProofKit
import Derived.OpenShut
import Derived.ShutString
import Derived.ChangeOld
import Derived.Below
import Derived.Test.YtkmofhpipcodbaaOAS
import Derived.Test.YtkmofhpipcodbaaZAS
import Derived.Test.YtkmofhpipcodbaaOLink
import Derived.Test.YtkmofhpipcodbaaZLink
import Derived.Test.YtkmofhpipcodbaaStruct
import Derived.Deep.RegionHeld3
import Derived.Test.YtkmofhpipcodbaaFail
import Derived.Test.YtkmofhpipcodbaaIntR
namespace Go.Proofs.Ytkmofhpipcodbaa.fnExactFailedInterfaces
open Go.ChangeShapes Go.WideShapes Go.ChangeAt Go.RowKit
open Go.ChangeMaps (open_string shut_string)
set_option linter.unusedVariables false

theorem own : ownKnob Try.prog.godebug = none := by kernel_rfl
theorem laidOut : laidOutB Try.prog = true := by kernel_rfl

set_option maxRecDepth 100000 in
set_option maxHeartbeats 4000000 in
theorem walk (a0_0 : Option Addr) (n0_0 c0_0 : Nat) (z0_0 : List TAS) (a0_1 : Option Addr) (n0_1 c0_1 : Nat) (z0_1 : List TLink) (a1_ : Option Addr) (n1_ c1_ : Nat) (z1_ : List Int) (a2 : Int) (w : World) (h0_0 : HasAS w w.heap.size a0_0 n0_0 z0_0) (m0_0 : n0_0 ≤ 9223372036854775807) (f0_0 : ∀ x ∈ z0_0, TAS.fits x) (h0_1 : HasLink w w.heap.size a0_1 n0_1 z0_1) (m0_1 : n0_1 ≤ 9223372036854775807) (f0_1 : ∀ x ∈ z0_1, TLink.fits x) (h1_ : HasInt w w.heap.size a1_ n1_ z1_) (m1_ : n1_ ≤ 9223372036854775807) (f1_ : ∀ z ∈ z1_, (Lit.int .i64 z).wf = true) (w2 : (Lit.int .i64 a2).wf = true) :
    Calls Try.prog 4 #[.agg #[.slice a0_0 n0_0 c0_0, .slice a0_1 n0_1 c0_1], .slice a1_ n1_ c1_, .int .i64 a2] w fun e w' => e = .returned (.bool true) ∧ Below w.heap.size w w' := by
  by_cases hbig1 : 1048576 < n1_
  · have hb1 : (1048576 : Int) < (n1_ : Int) := by omega
    go_enter Try.func4, Try.ntmps4
    go_wp2_with fail
    have M0 : Mk0 w (w.alloc (Obj.cells #[Value.slice a0_0 n0_0 c0_0, Value.slice a0_1 n0_1 c0_1] 36)) := (Mk.alloc w _)
    have k0_0 : (w.alloc (Obj.cells #[Value.slice a0_0 n0_0 c0_0, Value.slice a0_1 n0_1 c0_1] 36)).cell? ⟨w.heap.size, 0, none⟩ = some (.slice a0_0 n0_0 c0_0) := by simp [go_sem]
    have k0_1 : (w.alloc (Obj.cells #[Value.slice a0_0 n0_0 c0_0, Value.slice a0_1 n0_1 c0_1] 36)).cell? ⟨w.heap.size, 1, none⟩ = some (.slice a0_1 n0_1 c0_1) := by simp [go_sem]
    go_ret
    exact ⟨rfl, M0.below0⟩
  have hn1 : n1_ ≤ 1048576 := by omega
  have hp1 : (n1_ : Int) ≤ 1048576 := by omega
  clear hbig1
  by_cases hbig0 : (1048576 : Int) < (n0_0 : Int) + (n0_1 : Int)
  · go_enter Try.func4, Try.ntmps4
    go_wp2_with fail
    have M0 : Mk0 w (w.alloc (Obj.cells #[Value.slice a0_0 n0_0 c0_0, Value.slice a0_1 n0_1 c0_1] 36)) := (Mk.alloc w _)
    have k0_0 : (w.alloc (Obj.cells #[Value.slice a0_0 n0_0 c0_0, Value.slice a0_1 n0_1 c0_1] 36)).cell? ⟨w.heap.size, 0, none⟩ = some (.slice a0_0 n0_0 c0_0) := by simp [go_sem]
    have k0_1 : (w.alloc (Obj.cells #[Value.slice a0_0 n0_0 c0_0, Value.slice a0_1 n0_1 c0_1] 36)).cell? ⟨w.heap.size, 1, none⟩ = some (.slice a0_1 n0_1 c0_1) := by simp [go_sem]
    refine (szTopologyB _ _ _ _ _ _ _ _ (by omega) (by omega) (by omega) m0_0 m0_1).mono ?_
    rintro e w1 ⟨rfl, m1⟩
    go_wp2_with fail
    go_ret
    exact ⟨rfl, (M0.trans m1).below0⟩
  have hn0 : (n0_0 : Int) + (n0_1 : Int) ≤ (1048576 : Int) := by omega
  clear hbig0
  go_enter Try.func4, Try.ntmps4
  go_wp2_with fail
  have M0 : Mk0 w (w.alloc (Obj.cells #[Value.slice a0_0 n0_0 c0_0, Value.slice a0_1 n0_1 c0_1] 36)) := (Mk.alloc w _)
  have k0_0 : (w.alloc (Obj.cells #[Value.slice a0_0 n0_0 c0_0, Value.slice a0_1 n0_1 c0_1] 36)).cell? ⟨w.heap.size, 0, none⟩ = some (.slice a0_0 n0_0 c0_0) := by simp [go_sem]
  have k0_1 : (w.alloc (Obj.cells #[Value.slice a0_0 n0_0 c0_0, Value.slice a0_1 n0_1 c0_1] 36)).cell? ⟨w.heap.size, 1, none⟩ = some (.slice a0_1 n0_1 c0_1) := by simp [go_sem]
  refine (szTopologyC _ _ _ _ _ _ _ _ (by omega) (by omega) (by omega)).mono ?_
  rintro e w1 ⟨l1, hl1, rfl, m1⟩
  have M1 := M0.trans m1
  replace k0_0 := m1.cellAt k0_0
  replace k0_1 := m1.cellAt k0_1
  have z1 := m1.size
  simp only [World.size_alloc] at z1
  go_wp2_with fail
  refine (toTopologyC _ _ _ _ _ _ _ _ w.heap.size _ (h0_0.mk M1 (Nat.le_refl _) (.inr (Nat.le_refl _))) (h0_1.mk M1 (Nat.le_refl _) (.inr (Nat.le_refl _))) (by omega) (by omega) (by omega)).mono ?_
  rintro e w2 ⟨b1, b2, d3, rfl, o4, o5, g6, g7, m2⟩
  have M2 := M1.trans m2
  have z2 := m2.size
  replace k0_0 := m2.cellAt k0_0
  replace k0_1 := m2.cellAt k0_1
  have h8 := o4.has.mono (B' := w2.heap.size) (by omega)
  clear o4
  have h9 := o5.has.mono (B' := w2.heap.size) (by omega)
  clear o5
  go_wp2_with fail
  refine (toIntS _ _ _ w.heap.size _ _ (h1_.mk M2 (Nat.le_refl _) (.inr (Nat.le_refl _))) (by omega) (by omega)).mono ?_
  rintro e w3 ⟨b10, rfl, o11, m3⟩
  have M3 := M2.trans m3
  have z3 := m3.size
  replace k0_0 := m3.cellAt k0_0
  replace k0_1 := m3.cellAt k0_1
  replace h8 := h8.mk m3 (by omega) (.inr (Nat.le_refl _))
  replace h9 := h9.mk m3 (by omega) (.inr (Nat.le_refl _))
  have h12 := o11.has.mono (B' := w3.heap.size) (by omega)
  clear o11
  go_wp2_with fail
  have hN0_0 : n0_0 ≤ 1048576 := by omega
  have hN0_1 : n0_1 ≤ 1048576 := by omega
  have hN1_ : n1_ ≤ 1048576 := by omega
  refine (specFail _ _ _ _ _ _ _ z0_1 _ _ _ _ z1_ a2 _ h9 (by omega) hN0_1 h12 (by omega) hN1_).mono ?_
  rintro e w4 ⟨rfl, m4⟩
  have M4 := M3.trans m4
  have z4 := m4.size
  replace k0_0 := m4.cellAt k0_0
  replace k0_1 := m4.cellAt k0_1
  replace h8 := h8.mk m4 (by omega) (.inr (Nat.le_refl _))
  replace h9 := h9.mk m4 (by omega) (.inr (Nat.le_refl _))
  replace h12 := h12.mk m4 (by omega) (.inr (Nat.le_refl _))
  go_wp2_with fail
  refine (toTopologyC _ _ _ _ _ _ _ _ w.heap.size _ (h0_0.mk M4 (Nat.le_refl _) (.inr (Nat.le_refl _))) (h0_1.mk M4 (Nat.le_refl _) (.inr (Nat.le_refl _))) (by omega) (by omega) (by omega)).mono ?_
  rintro e w5 ⟨b13, b14, d15, rfl, o16, o17, g18, g19, m5⟩
  have M5 := M4.trans m5
  have z5 := m5.size
  replace k0_0 := m5.cellAt k0_0
  replace k0_1 := m5.cellAt k0_1
  have h20 := o16.has.mono (B' := w5.heap.size) (by omega)
  clear o16
  have h21 := o17.has.mono (B' := w5.heap.size) (by omega)
  clear o17
  go_wp2_with fail
  have xx0_0 : (w5.alloc (Obj.cells #[Value.slice (some ⟨b13, 0, none⟩) n0_0 n0_0, Value.slice (some ⟨b14, 0, none⟩) n0_1 n0_1] 43)).cell? ⟨w5.heap.size, 0, none⟩ = some (.slice (some ⟨b13, 0, none⟩) n0_0 n0_0) := by rw [World.cell?_alloc_at _ _ _ _ rfl]; rfl
  have xx0_1 : (w5.alloc (Obj.cells #[Value.slice (some ⟨b13, 0, none⟩) n0_0 n0_0, Value.slice (some ⟨b14, 0, none⟩) n0_1 n0_1] 43)).cell? ⟨w5.heap.size, 1, none⟩ = some (.slice (some ⟨b14, 0, none⟩) n0_1 n0_1) := by rw [World.cell?_alloc_at _ _ _ _ rfl]; rfl
  have m6 := Mk.alloc w5 (Obj.cells #[Value.slice (some ⟨b13, 0, none⟩) n0_0 n0_0, Value.slice (some ⟨b14, 0, none⟩) n0_1 n0_1] 43)
  replace k0_0 := m6.cellAt k0_0
  replace k0_1 := m6.cellAt k0_1
  replace h20 := h20.mk m6 (by omega) (.inr (Nat.le_refl _))
  replace h21 := h21.mk m6 (by omega) (.inr (Nat.le_refl _))
  have M6 := M5.trans m6
  have z6 := m6.size
  have zz6 : w5.heap.size < (w5.alloc (Obj.cells #[Value.slice (some ⟨b13, 0, none⟩) n0_0 n0_0, Value.slice (some ⟨b14, 0, none⟩) n0_1 n0_1] 43)).heap.size := by rw [World.size_alloc]; omega
  generalize (w5.alloc (Obj.cells #[Value.slice (some ⟨b13, 0, none⟩) n0_0 n0_0, Value.slice (some ⟨b14, 0, none⟩) n0_1 n0_1] 43)) = w6 at *
  refine (toIntS _ _ _ w.heap.size _ _ (h1_.mk M6 (Nat.le_refl _) (.inr (Nat.le_refl _))) (by omega) (by omega)).mono ?_
  rintro e w7 ⟨b22, rfl, o23, m7⟩
  have M7 := M6.trans m7
  have z7 := m7.size
  replace k0_0 := m7.cellAt k0_0
  replace k0_1 := m7.cellAt k0_1
  replace xx0_0 := m7.cellAt xx0_0
  replace xx0_1 := m7.cellAt xx0_1
  replace h20 := h20.mk m7 (by omega) (.inr (Nat.le_refl _))
  replace h21 := h21.mk m7 (by omega) (.inr (Nat.le_refl _))
  have h24 := o23.has.mono (B' := w7.heap.size) (by omega)
  clear o23
  go_wp2_with fail
  have hN0_0 : n0_0 ≤ 1048576 := by omega
  have hN0_1 : n0_1 ≤ 1048576 := by omega
  have hN1_ : n1_ ≤ 1048576 := by omega
  refine (implFail _ _ _ _ _ _ _ z0_1 _ _ _ _ z1_ a2 _ h21 (by omega) hN0_1 h24 (by omega) hN1_).mono ?_
  rintro e w8 ⟨rfl, m8⟩
  have M8 := M7.trans m8
  have z8 := m8.size
  replace k0_0 := m8.cellAt k0_0
  replace k0_1 := m8.cellAt k0_1
  replace xx0_0 := m8.cellAt xx0_0
  replace xx0_1 := m8.cellAt xx0_1
  replace h20 := h20.mk m8 (by omega) (.inr (Nat.le_refl _))
  replace h21 := h21.mk m8 (by omega) (.inr (Nat.le_refl _))
  replace h24 := h24.mk m8 (by omega) (.inr (Nat.le_refl _))
  go_wp2_with fail
  have e25 : ∀ w', Mk0 w8 w' → HasAS w' w5.heap.size (some ⟨b13, 0, none⟩) n0_0 z0_0 := fun w' m => h20.mk m (by omega) (.inr (Nat.le_refl _))
  have e26 : ∀ w', Mk0 w8 w' → HasLink w' w5.heap.size (some ⟨b14, 0, none⟩) n0_1 z0_1 := fun w' m => h21.mk m (by omega) (.inr (Nat.le_refl _))
  have e27 : ∀ w', Mk0 w8 w' → w5.heap.size ≤ w'.heap.size := fun w' m => Nat.le_trans (by omega) m.size
  have e28 : ∀ w', Mk0 w8 w' → HasAS w' w.heap.size a0_0 n0_0 z0_0 := fun w' m => h0_0.mk (M8.trans m) (Nat.le_refl _) (.inr (Nat.le_refl _))
  have e29 : ∀ w', Mk0 w8 w' → HasLink w' w.heap.size a0_1 n0_1 z0_1 := fun w' m => h0_1.mk (M8.trans m) (Nat.le_refl _) (.inr (Nat.le_refl _))
  have hN0_0 : n0_0 ≤ 1048576 := by omega
  have hN0_1 : n0_1 ≤ 1048576 := by omega
  go_region_held3 (fun w' => Mk0 w8 w' ∧ w'.cell? ⟨w.heap.size, 0, none⟩ = some (.slice a0_0 n0_0 c0_0) ∧ w'.cell? ⟨w.heap.size, 1, none⟩ = some (.slice a0_1 n0_1 c0_1) ∧ w'.cell? ⟨w5.heap.size, 0, none⟩ = some (.slice (some ⟨b13, 0, none⟩) n0_0 n0_0) ∧ w'.cell? ⟨w5.heap.size, 1, none⟩ = some (.slice (some ⟨b14, 0, none⟩) n0_1 n0_1)) (first | exact ⟨Mk.drew1 _, k0_0, k0_1, xx0_0, xx0_1⟩ | (obtain ⟨s0, s1, s2, s3, s4⟩ := ‹Mk0 w8 _ ∧ _›; exact ⟨s0.trans mm, mm.cellAt s1, mm.cellAt s2, mm.cellAt s3, mm.cellAt s4⟩)) (first | (go_at_call 16; refine (toTopologyC _ _ _ _ _ _ _ _ w.heap.size _ (e28 _ (‹Mk0 w8 _ ∧ _›).1) (e29 _ (‹Mk0 w8 _ ∧ _›).1) (M8.trans (‹Mk0 w8 _ ∧ _›).1).size hN0_0 hN0_1).mono ?_; rintro e wa ⟨bb0, bb1, dd0, rfl, oo0, oo1, gg0, gg1, mm⟩) | (go_at_call 19; refine (eqTopologyC _ _ _ _ _ _ _ _ _ _ _ _ _ _ _ (e25 _ (‹Mk0 w8 _ ∧ _›).1) (e26 _ (‹Mk0 w8 _ ∧ _›).1) (oo0.has.mono gg1) (oo1.has.mono (Nat.le_refl _)) (e27 _ (‹Mk0 w8 _ ∧ _›).1) (Nat.le_refl _) hN0_0 hN0_1).mono ?_; rintro e wb9 ⟨rfl, mm⟩))
  obtain ⟨m9, k0_0, k0_1, xx0_0, xx0_1⟩ := ‹Mk0 w8 _ ∧ _›
  clear e25 e26 e27 e28 e29 hN0_0 hN0_1
  refine ‹∀ (a : Act) (w : World), _ → _› _ _ ?_
  have M9 := M8.trans m9
  have z9 := m9.size
  replace h20 := h20.mk m9 (by omega) (.inr (Nat.le_refl _))
  replace h21 := h21.mk m9 (by omega) (.inr (Nat.le_refl _))
  replace h24 := h24.mk m9 (by omega) (.inr (Nat.le_refl _))
  go_wp2_with fail
  refine (toIntS _ _ _ w.heap.size _ _ (h1_.mk M9 (Nat.le_refl _) (.inr (Nat.le_refl _))) (by omega) (by omega)).mono ?_
  rintro e w10 ⟨b30, rfl, o31, m10⟩
  have M10 := M9.trans m10
  have z10 := m10.size
  replace k0_0 := m10.cellAt k0_0
  replace k0_1 := m10.cellAt k0_1
  replace xx0_0 := m10.cellAt xx0_0
  replace xx0_1 := m10.cellAt xx0_1
  replace h24 := h24.mk m10 (by omega) (.inr (Nat.le_refl _))
  have h32 := o31.has.mono (B' := w10.heap.size) (by omega)
  clear o31
  go_wp2_with fail
  refine (eqIntS _ _ _ _ _ _ _ _ _ h24 h32 (by omega) (by omega) (by omega)).mono ?_
  rintro e w11 ⟨rfl, m11⟩
  have M11 := M10.trans m11
  have z11 := m11.size
  replace k0_0 := m11.cellAt k0_0
  replace k0_1 := m11.cellAt k0_1
  replace xx0_0 := m11.cellAt xx0_0
  replace xx0_1 := m11.cellAt xx0_1
  replace h24 := h24.mk m11 (by omega) (.inr (Nat.le_refl _))
  replace h32 := h32.mk m11 (by omega) (.inr (Nat.le_refl _))
  go_wp2_with fail
  go_ret
  exact ⟨rfl, M11.below0⟩

set_option maxRecDepth 100000 in
theorem lifted (os : Os) (started : os.Started) (H : Type) (enc : TypeId × Value → H) :
    ReturnsInHanded {} Try.checked os 4 .any (Rows.fnExactFailedInterfacesSpec.pre6 enc Try.prog Try.f4 Rows.fnExactFailedInterfacesRow.domain false) (Rows.fnExactFailedInterfacesSpec.post enc Try.prog Try.f4 false true false false) := by
  refine returnsInHanded_of_change (C := Try.checked) own started (by kernel_rfl) Try.func4
    (ChangeSpec.witness6 (enc := enc) (C := Try.checked) false ⟨#[], #[.agg #[.slice none 0 0, .slice none 0 0], .slice none 0 0, .int .i64 0], []⟩ 8 (by kernel_rfl) (by kernel_rfl) (by kernel_rfl) (by kernel_rfl)) ?_
  intro W base args ds gs before hval0 hW hcnd _
  have hval : ∀ (j : Nat) t v, Try.f4.params[j]? = some t → args[j]? = some v → Value.okWide Try.prog W .any base t v := hval0
  have hW' := hW
  obtain ⟨p, q, hA0, hV, rfl, hfz, hnd⟩ := hW
  have hA : DataW.TrodAll enc Try.prog W 0 (fun _ => true) true Try.f4.params.toList args.toList ds p := hA0
  rw [Try.params4] at hA hval
  obtain ⟨v0, vs0, d0, ds0, p0, q0, hargs, rfl, rfl, h0, r0⟩ := trodAll_cons hA
  obtain ⟨v1, vs1, d1, ds1, p1, q1, rfl, rfl, rfl, h1, r1⟩ := trodAll_cons r0
  obtain ⟨v2, vs2, d2, ds2, p2, q2, rfl, rfl, rfl, h2, r2⟩ := trodAll_cons r1
  obtain ⟨rfl, rfl, rfl⟩ := trodAll_nil r2
  obtain rfl : args = #[v0, v1, v2] := by cases args; simp_all
  obtain ⟨rfl, rfl⟩ := trodVars_none hV
  have k0 := h0
  have lt0 : ∀ x ∈ p0, x.block < W.heap.size := by obtain ⟨m, hm⟩ := k0; exact DataW.trod_lt m _ _ _ hm
  obtain ⟨cs0, rfl, hcs0, hf0⟩ := open_agg Try.underlying36 (by kernel_rfl) (by kernel_rfl) (hval 0 36 v0 rfl rfl) h0
  obtain ⟨_, _, _, e0_0, q0_0⟩ := hf0 0 _ rfl
  obtain ⟨a0_0, n0_0, c0_0, z0_0, rfl, m0_0, h0_0, f0_0⟩ := openASS q0_0
  obtain ⟨_, _, _, e0_1, q0_1⟩ := hf0 1 _ rfl
  obtain ⟨a0_1, n0_1, c0_1, z0_1, rfl, m0_1, h0_1, f0_1⟩ := openLinkS q0_1
  obtain rfl : cs0 = #[.slice a0_0 n0_0 c0_0, .slice a0_1 n0_1 c0_1] := arr_of [.slice a0_0 n0_0 c0_0, .slice a0_1 n0_1 c0_1] hcs0 (fun j hj => by match j, hj with | 0, _ => exact e0_0 | 1, _ => exact e0_1)
  obtain ⟨a1, len1, cap1, rfl⟩ := okWide_slice Try.underlying37 (hval 1 37 v1 rfl rfl)
  have k1 := h1
  have lt1 : ∀ x ∈ p1, x.block < W.heap.size := by obtain ⟨m, hm⟩ := k1; exact DataW.trod_lt m _ _ _ hm
  obtain ⟨z1, w1⟩ : ∃ zs, IsRow .i64 W a1 len1 cap1 zs := by
    obtain ⟨fuel, hf⟩ := h1
    rcases open_ints Try.underlying37 Try.underlying3 (by kernel_rfl) hf with ⟨hcs, _⟩ | ⟨x, l, c, zs, hcs, _, hl, hm, hz, _, hcell, hwz⟩
    · simp [Value.cells] at hcs
      obtain ⟨rfl, rfl, rfl⟩ := hcs
      exact ⟨[], .inl ⟨rfl, rfl, rfl, rfl⟩⟩
    · simp [Value.cells] at hcs
      obtain ⟨rfl, rfl, rfl⟩ := hcs
      exact ⟨zs, .inr ⟨_, rfl, hl, hm, by simpa using hz, hcell, hwz⟩⟩
  obtain ⟨a2, rfl, rfl, rfl, w2⟩ := open_int Try.underlying3 (hval 2 3 v2 rfl rfl) h2
  clear hA0 hval0
  refine (walk a0_0 n0_0 c0_0 z0_0 a0_1 n0_1 c0_1 z0_1 a1 len1 cap1 (z1.take len1) a2 W h0_0 m0_0 f0_0 h0_1 m0_1 f0_1 (hasR_int.2 w1.has) (isrow_len w1) w1.fits w2).mono fun e W' ⟨he, bel⟩ => ?_
  subst he
  exact ⟨_, rfl, _, _, _, [], _, [], hW', trodAll_mk1 (shut_bool Try.underlying4 _), (trodAll_cons_mk (Below.trod laidOut (by kernel_rfl) (of_decide_eq_true (by kernel_rfl)) k0 bel lt0) (trodAll_cons_mk (Below.trod laidOut (by kernel_rfl) (of_decide_eq_true (by kernel_rfl)) k1 bel lt1) (trodAll_cons_mk (shut_int Try.underlying3 w2) trodAll_mk0))), rfl, bel.frame _, fun h => by cases h⟩

theorem over : Rows.fnExactFailedInterfacesRow.holds Try.pinned (OpenSpec.ofChange Rows.fnExactFailedInterfacesSpec) :=
  OpenClaim.holds_of_wide 4 Try.f4 rfl rfl rfl rfl rfl rfl rfl ⟨rfl, rfl, rfl, rfl, rfl⟩ rfl rfl rfl rfl rfl (by kernel_rfl) Try.func4 (by kernel_rfl)
    (of_decide_eq_true (by kernel_rfl)) (by unfold Func.isWrapper; first | (rw [if_pos (by decide +kernel)]; kernel_rfl) | (rw [if_neg (by decide +kernel)]; exact ⟨rfl, rfl⟩))
    (fun os started H enc _ => lifted os started H enc)

theorem proved : Rows.FnExactFailedInterfacesSaid := over
#print axioms proved
end Go.Proofs.Ytkmofhpipcodbaa.fnExactFailedInterfaces
