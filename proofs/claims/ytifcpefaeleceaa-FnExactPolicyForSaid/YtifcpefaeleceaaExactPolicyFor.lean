
/- For every list of policies and AS, the law on PolicyFor returns true; no further condition. -/
import Derived.Test.YtifcpefaeleceaaRows
import Derived.WalkKit
import Derived.ProofKit
import Derived.OpenShut
import Derived.ShutString
import Derived.ChangeOld
import Derived.Below
import Derived.Test.YtifcpefaeleceaaOPolicy
import Derived.Test.YtifcpefaeleceaaPolFor
namespace Go.Proofs.Ytifcpefaeleceaa.fnExactPolicyFor
open Go.ChangeShapes Go.WideShapes Go.ChangeAt Go.RowKit
open Go.ChangeMaps (open_string shut_string)
set_option linter.unusedVariables false

theorem own : ownKnob Try.prog.godebug = none := by kernel_rfl
theorem laidOut : laidOutB Try.prog = true := by kernel_rfl

set_option maxRecDepth 100000 in
set_option maxHeartbeats 4000000 in
theorem walk (a0 : Option Addr) (n0 c0 : Nat) (z0 : List TPolicy) (a1 : Int) (w : World) (h0 : HasPolicy w w.heap.size a0 n0 z0) (m0 : n0 ≤ 9223372036854775807) (f0 : ∀ x ∈ z0, TPolicy.fits x) (w1 : (Lit.int .i64 a1).wf = true) :
    Calls Try.prog 8 #[.slice a0 n0 c0, .int .i64 a1] w fun e w' => e = .returned (.bool true) ∧ Below w.heap.size w w' := by
  by_cases hbig : (1048576 : Int) < n0
  · go_enter Try.func8, Try.ntmps8
    go_wp2_with fail
    refine (szPolicySB _ _ _ _ _ (by omega) (by omega) (by omega) m0).mono ?_
    rintro e w' ⟨rfl, rfl⟩
    go_wp2_with fail
    go_ret
    exact ⟨rfl, Below.refl _ _⟩
  have hn : (n0 : Int) ≤ 1048576 := by omega
  clear hbig
  go_enter Try.func8, Try.ntmps8
  go_wp2_with fail
  refine (szPolicySC _ _ _ _ _ (by omega) (by omega) (by omega)).mono ?_
  rintro e w' ⟨rfl, rfl⟩
  go_wp2_with fail
  refine (toPolicyS _ _ _ w.heap.size z0 _ h0 (Nat.le_refl _) (by omega)).mono ?_
  rintro e w1 ⟨b1, rfl, o1, m1⟩
  have z1 := m1.size
  go_wp2_with fail
  refine (specPolFor _ _ _ _ z0 _ _ o1.has (Nat.le_refl _) (by omega)).mono ?_
  rintro e w2 ⟨rfl, m2⟩
  have M2 := m1.trans m2
  have z2 := m2.size
  go_wp2_with fail
  have K0 : (w2.alloc (Obj.cells #[Value.int .i64 (polFor z0 n0 a1).len, Value.int .i64 (polFor z0 n0 a1).denied, Value.int .i64 (polFor z0 n0 a1).closed, Value.int .i64 (polFor z0 n0 a1).life] 25)).cell? ⟨w2.heap.size, 0, none⟩ = some (.int .i64 (polFor z0 n0 a1).len) := by rw [World.cell?_alloc_at _ _ _ _ rfl]; rfl
  have K1 : (w2.alloc (Obj.cells #[Value.int .i64 (polFor z0 n0 a1).len, Value.int .i64 (polFor z0 n0 a1).denied, Value.int .i64 (polFor z0 n0 a1).closed, Value.int .i64 (polFor z0 n0 a1).life] 25)).cell? ⟨w2.heap.size, 1, none⟩ = some (.int .i64 (polFor z0 n0 a1).denied) := by rw [World.cell?_alloc_at _ _ _ _ rfl]; rfl
  have K2 : (w2.alloc (Obj.cells #[Value.int .i64 (polFor z0 n0 a1).len, Value.int .i64 (polFor z0 n0 a1).denied, Value.int .i64 (polFor z0 n0 a1).closed, Value.int .i64 (polFor z0 n0 a1).life] 25)).cell? ⟨w2.heap.size, 2, none⟩ = some (.int .i64 (polFor z0 n0 a1).closed) := by rw [World.cell?_alloc_at _ _ _ _ rfl]; rfl
  have K3 : (w2.alloc (Obj.cells #[Value.int .i64 (polFor z0 n0 a1).len, Value.int .i64 (polFor z0 n0 a1).denied, Value.int .i64 (polFor z0 n0 a1).closed, Value.int .i64 (polFor z0 n0 a1).life] 25)).cell? ⟨w2.heap.size, 3, none⟩ = some (.int .i64 (polFor z0 n0 a1).life) := by rw [World.cell?_alloc_at _ _ _ _ rfl]; rfl
  have zn : (w2.alloc (Obj.cells #[Value.int .i64 (polFor z0 n0 a1).len, Value.int .i64 (polFor z0 n0 a1).denied, Value.int .i64 (polFor z0 n0 a1).closed, Value.int .i64 (polFor z0 n0 a1).life] 25)).heap.size = w2.heap.size + 1 := World.size_alloc _ _
  refine (toPolicyS _ _ _ w.heap.size z0 _ (h0.mk (M2.new _) (Nat.le_refl _) (.inr (Nat.le_refl _))) (by omega) (by omega)).mono ?_
  rintro e w3 ⟨b2, rfl, o2, m3⟩
  have z3 := m3.size
  have M3 := (M2.new _).trans m3
  replace K0 := m3.cellAt K0
  replace K1 := m3.cellAt K1
  replace K2 := m3.cellAt K2
  replace K3 := m3.cellAt K3
  have h2 := o2.has
  clear o2
  go_wp2_with fail
  refine (implPolFor _ _ _ _ z0 _ _ h2 (Nat.le_refl _) (by omega)).mono ?_
  rintro e w4 ⟨rfl, m4⟩
  have z4 := m4.size
  have M4 := M3.trans m4
  replace K0 := m4.cellAt K0
  replace K1 := m4.cellAt K1
  replace K2 := m4.cellAt K2
  replace K3 := m4.cellAt K3
  replace h2 := h2.mk m4 (Nat.le_refl _) (.inr (Nat.le_refl _))
  have y : w2.heap.size < w4.heap.size := by omega
  go_wp2_with fail
  refine (eqPolicyV (polFor z0 n0 a1) _).mono ?_
  rintro e w5 ⟨rfl, m5⟩
  replace m5 := (Mk.alloc w4 _).trans m5
  have z5 := m5.size
  have M5 := M4.trans m5
  replace h2 := h2.mk m5 (by omega) (.inr (Nat.le_refl _))
  go_wp2_with fail
  refine (toPolicyS _ _ _ w.heap.size z0 _ (h0.mk M5 (Nat.le_refl _) (.inr (Nat.le_refl _))) (by omega) (by omega)).mono ?_
  rintro e w6 ⟨b3, rfl, o3, m6⟩
  have z6 := m6.size
  have M6 := M5.trans m6
  replace h2 := h2.mk m6 (by omega) (.inr (Nat.le_refl _))
  go_wp2_with fail
  refine (eqPolicyS _ _ _ _ _ _ _ _ _ h2 o3.has (by omega) (Nat.le_refl _) (by omega)).mono ?_
  rintro e w7 ⟨rfl, m7⟩
  go_wp2_with fail
  go_ret
  exact ⟨rfl, (M6.trans m7).below0⟩

set_option maxRecDepth 100000 in
theorem lifted (os : Os) (started : os.Started) (H : Type) (enc : TypeId × Value → H) :
    ReturnsInHanded {} Try.checked os 8 .any (Rows.fnExactPolicyForSpec.pre6 enc Try.prog Try.f8 Rows.fnExactPolicyForRow.domain false) (Rows.fnExactPolicyForSpec.post enc Try.prog Try.f8 false true false false) := by
  refine returnsInHanded_of_change (C := Try.checked) own started (by kernel_rfl) Try.func8
    (ChangeSpec.witness6 (enc := enc) (C := Try.checked) false ⟨#[], #[.slice none 0 0, .int .i64 0], []⟩ 8 (by kernel_rfl) (by kernel_rfl) (by kernel_rfl) (by kernel_rfl)) ?_
  intro W base args ds gs before hval0 hW hcnd _
  have hval : ∀ (j : Nat) t v, Try.f8.params[j]? = some t → args[j]? = some v → Value.okWide Try.prog W .any base t v := hval0
  have hW' := hW
  obtain ⟨p, q, hA0, hV, rfl, hfz, hnd⟩ := hW
  have hA : DataW.TrodAll enc Try.prog W 0 (fun _ => true) true Try.f8.params.toList args.toList ds p := hA0
  rw [Try.params8] at hA hval
  obtain ⟨v0, vs0, d0, ds0, p0, q0, hargs, rfl, rfl, h0, r0⟩ := trodAll_cons hA
  obtain ⟨v1, vs1, d1, ds1, p1, q1, rfl, rfl, rfl, h1, r1⟩ := trodAll_cons r0
  obtain ⟨rfl, rfl, rfl⟩ := trodAll_nil r1
  obtain rfl : args = #[v0, v1] := by cases args; simp_all
  obtain ⟨rfl, rfl⟩ := trodVars_none hV
  have k0 := h0
  have lt0 : ∀ x ∈ p0, x.block < W.heap.size := by obtain ⟨m, hm⟩ := k0; exact DataW.trod_lt m _ _ _ hm
  obtain ⟨b0, l0, g0, rfl⟩ := okWide_slice Try.underlying45 (hval 0 45 v0 rfl rfl)
  obtain ⟨fu0, hfu0⟩ := h0
  rw [show (Value.slice b0 l0 g0).cells.toList = [.slice b0 l0 g0] from rfl] at hfu0
  obtain ⟨a0, n0, c0, z0, hv0, m0, h0, f0⟩ := openPolicyS hfu0
  injection hv0 with e1 e2 e3
  subst e1 e2 e3
  obtain ⟨a1, rfl, rfl, rfl, w1⟩ := open_int Try.underlying3 (hval 1 3 v1 rfl rfl) h1
  clear hA0 hval0
  refine (walk b0 l0 g0 z0 a1 W h0 m0 f0 w1).mono fun e W' ⟨he, bel⟩ => ?_
  subst he
  exact ⟨_, rfl, _, _, _, [], _, [], hW', trodAll_mk1 (shut_bool Try.underlying4 _), (trodAll_cons_mk (Below.trod laidOut (by kernel_rfl) (of_decide_eq_true (by kernel_rfl)) k0 bel lt0) (trodAll_cons_mk (shut_int Try.underlying3 w1) trodAll_mk0)), rfl, bel.frame _, fun h => by cases h⟩

theorem over : Rows.fnExactPolicyForRow.holds Try.pinned (OpenSpec.ofChange Rows.fnExactPolicyForSpec) :=
  OpenClaim.holds_of_wide 8 Try.f8 rfl rfl rfl rfl rfl rfl rfl ⟨rfl, rfl, rfl, rfl, rfl⟩ rfl rfl rfl rfl rfl (by kernel_rfl) Try.func8 (by kernel_rfl)
    (of_decide_eq_true (by kernel_rfl)) (by unfold Func.isWrapper; first | (rw [if_pos (by decide +kernel)]; kernel_rfl) | (rw [if_neg (by decide +kernel)]; exact ⟨rfl, rfl⟩))
    (fun os started H enc _ => lifted os started H enc)

theorem proved : Rows.FnExactPolicyForSaid := over
#print axioms proved
end Go.Proofs.Ytifcpefaeleceaa.fnExactPolicyFor
