
/- For every list of signatures and every signature, the law on AddSignature returns true; no further condition. -/
import Derived.Test.YtpkgpaeecjlnoaaRows
import Derived.WalkKit
import Derived.ProofKit
import Derived.OpenShut
import Derived.ShutString
import Derived.ChangeOld
import Derived.Below
import Derived.Test.YtpkgpaeecjlnoaaStruct
import Derived.Test.YtpkgpaeecjlnoaaOSignature
import Derived.Test.YtpkgpaeecjlnoaaZSignature
import Derived.Deep.RegionHeld3
import Derived.Test.YtpkgpaeecjlnoaaAddSig
import Derived.Test.YtpkgpaeecjlnoaaHSignature
import Derived.Test.YtpkgpaeecjlnoaaMSignature
namespace Go.Proofs.Ytpkgpaeecjlnoaa.fnExactAddSignature
open Go.ChangeShapes Go.WideShapes Go.ChangeAt Go.RowKit
open Go.ChangeMaps (open_string shut_string)
set_option linter.unusedVariables false

theorem own : ownKnob Try.prog.godebug = none := by kernel_rfl
theorem laidOut : laidOutB Try.prog = true := by kernel_rfl

set_option maxRecDepth 100000 in
set_option maxHeartbeats 4000000 in
theorem walk (a0_ : Option Addr) (n0_ c0_ : Nat) (z0_ : List TSignature) (a1_0 : Int) (a1_1 : Int) (w : World) (h0_ : HasSignature w w.heap.size a0_ n0_ z0_) (m0_ : n0_ ≤ 9223372036854775807) (f0_ : ∀ x ∈ z0_, TSignature.fits x) (w1_0 : (Lit.int .i64 a1_0).wf = true) (w1_1 : (Lit.int .i64 a1_1).wf = true) :
    Calls Try.prog 7 #[.slice a0_ n0_ c0_, .agg #[.int .i64 a1_0, .int .i64 a1_1]] w fun e w' => e = .returned (.bool true) ∧ Below w.heap.size w w' := by
  by_cases hbig0 : (1048576 : Int) < (n0_ : Int)
  · go_enter Try.func7, Try.ntmps7
    go_wp2_with fail
    have M0 : Mk0 w (w.alloc (Obj.cells #[Value.int .i64 a1_0, Value.int .i64 a1_1] 60)) := (Mk.alloc w _)
    have k1_0 : (w.alloc (Obj.cells #[Value.int .i64 a1_0, Value.int .i64 a1_1] 60)).cell? ⟨w.heap.size, 0, none⟩ = some (.int .i64 a1_0) := by simp [go_sem]
    have k1_1 : (w.alloc (Obj.cells #[Value.int .i64 a1_0, Value.int .i64 a1_1] 60)).cell? ⟨w.heap.size, 1, none⟩ = some (.int .i64 a1_1) := by simp [go_sem]
    refine (szSignatureSB _ _ _ _ _ (by omega) (by omega) (by omega) m0_).mono ?_
    rintro e w' ⟨rfl, rfl⟩
    go_wp2_with fail
    go_ret
    exact ⟨rfl, M0.below0⟩
  have hn0 : (n0_ : Int) ≤ (1048576 : Int) := by omega
  clear hbig0
  go_enter Try.func7, Try.ntmps7
  go_wp2_with fail
  have M0 : Mk0 w (w.alloc (Obj.cells #[Value.int .i64 a1_0, Value.int .i64 a1_1] 60)) := (Mk.alloc w _)
  have k1_0 : (w.alloc (Obj.cells #[Value.int .i64 a1_0, Value.int .i64 a1_1] 60)).cell? ⟨w.heap.size, 0, none⟩ = some (.int .i64 a1_0) := by simp [go_sem]
  have k1_1 : (w.alloc (Obj.cells #[Value.int .i64 a1_0, Value.int .i64 a1_1] 60)).cell? ⟨w.heap.size, 1, none⟩ = some (.int .i64 a1_1) := by simp [go_sem]
  refine (szSignatureSC _ _ _ _ _ (by omega) (by omega) (by omega)).mono ?_
  rintro e w' ⟨rfl, rfl⟩
  go_wp2_with fail
  have e1 : ∀ w', Mk0 (w.alloc (Obj.cells #[Value.int .i64 a1_0, Value.int .i64 a1_1] 60)) w' → HasSignature w' w.heap.size a0_ n0_ z0_ := fun w' m => h0_.mk (M0.trans m) (Nat.le_refl _) (.inr (Nat.le_refl _))
  have hN0_ : n0_ ≤ 1048576 := by omega
  go_region_held3 (fun w' => Mk0 (w.alloc (Obj.cells #[Value.int .i64 a1_0, Value.int .i64 a1_1] 60)) w' ∧ w'.cell? ⟨w.heap.size, 0, none⟩ = some (.int .i64 a1_0) ∧ w'.cell? ⟨w.heap.size, 1, none⟩ = some (.int .i64 a1_1)) (first | exact ⟨Mk.drew1 _, k1_0, k1_1⟩ | (obtain ⟨s0, s1, s2⟩ := ‹Mk0 (w.alloc (Obj.cells #[Value.int .i64 a1_0, Value.int .i64 a1_1] 60)) _ ∧ _›; exact ⟨s0.trans mm, mm.cellAt s1, mm.cellAt s2⟩)) (first | (go_at_call 39; with_reducible refine (toSignatureS a0_ n0_ c0_ w.heap.size z0_ _ (e1 _ (‹Mk0 (w.alloc (Obj.cells #[Value.int .i64 a1_0, Value.int .i64 a1_1] 60)) _ ∧ _›).1) (M0.trans (‹Mk0 (w.alloc (Obj.cells #[Value.int .i64 a1_0, Value.int .i64 a1_1] 60)) _ ∧ _›).1).size hN0_).mono ?_; rintro e wc0 ⟨bc0_0, rfl, oc0_0, mc0⟩; have mm := mc0) | (go_at_call 40; with_reducible refine (toSignatureI a1_0 a1_1 _).mono ?_; rintro e wf1 ⟨rfl, mf1⟩; have mm := mf1) | (go_at_call 38; refine (specAddSig ⟨a1_0, a1_1⟩ _ _ _ _ z0_ _ (by first | exact (oc0_0.has.mono (Nat.le_refl _)) | exact (oc0_0.has.mono (Nat.le_refl _)).mk mf1 (Nat.le_refl _) (.inr (Nat.le_refl _))) (by first | exact Nat.le_refl _ | exact mf1.size) hN0_ (fun h => by cases h) (Nat.le_refl _)).mono ?_; rintro e wz1 ⟨A1, N1, c1, rfl, hc1, ow0, mm⟩))
  all_goals (
    obtain ⟨m1, k1_0, k1_1⟩ := ‹Mk0 (w.alloc (Obj.cells #[Value.int .i64 a1_0, Value.int .i64 a1_1] 60)) _ ∧ _›
    refine ‹∀ (a : Act) (w : World), _ → _› _ _ ?_
    clear e1 hN0_
    have M1 := M0.trans m1
    have z1 := m1.size
    replace ow0 := ow0.wide (lo' := w.heap.size) (Nat.le_trans (Nat.le_trans (M0.size) mc0.size) mf1.size) (Nat.le_refl _)
    clear hc1
    simp only [World.size_alloc] at z1
    have hbw0 : N1 ≤ 2097152 := by have h1 := ow0.1; have h2 := putP_len (p := pSg ⟨a1_0, a1_1⟩) (zs := z0_) (n := n0_) (x := ⟨a1_0, a1_1⟩); have h3 := h0_.1; omega
    go_wp2_with fail
    refine (toSignatureS _ _ _ w.heap.size _ _ (h0_.mk M1 (Nat.le_refl _) (.inr (Nat.le_refl _))) (by omega) (by omega)).mono ?_
    rintro e w2 ⟨b2, rfl, o3, m2⟩
    have M2 := M1.trans m2
    have z2 := m2.size
    replace k1_0 := m2.cellAt k1_0
    replace k1_1 := m2.cellAt k1_1
    replace ow0 := ow0.mk m2 (by omega) (.inr (.inr (Nat.le_refl _)))
    have h4 := o3.has.mono (B' := w2.heap.size) (by omega)
    go_wp2_with fail
    refine (toSignatureV ⟨a1_0, a1_1⟩ _).mono ?_
    rintro e w3 ⟨rfl, m3⟩
    have M3 := M2.trans m3
    have z3 := m3.size
    replace k1_0 := m3.cellAt k1_0
    replace k1_1 := m3.cellAt k1_1
    replace h4 := h4.mk m3 (by omega) (.inr (Nat.le_refl _))
    replace o3 := o3.mk m3 (by omega) (.inr (.inr (Nat.le_refl _)))
    replace ow0 := ow0.mk m3 (by omega) (.inr (.inr (Nat.le_refl _)))
    go_wp2_with fail
    refine (implAddSig ⟨a1_0, a1_1⟩ _ _ _ _ z0_ _ h4 (by omega) (by omega) (fun h => by cases h) (Nat.le_refl _)).mono ?_
    rintro e w4 ⟨A4, N4, c4, rfl, hc4, og0, m4⟩
    clear hc4
    obtain rfl : N1 = N4 := ow0.1.symm.trans og0.1
    have M4 := M3.trans m4
    have z4 := m4.size
    replace k1_0 := m4.cellAt k1_0
    replace k1_1 := m4.cellAt k1_1
    replace h4 := h4.mk m4 (by omega) (.inr (Nat.le_refl _))
    replace o3 := o3.mk m4 (by omega) (.inr (.inr (Nat.le_refl _)))
    replace ow0 := ow0.mk m4 (by omega) (.inr (.inr (Nat.le_refl _)))
    go_wp2_with fail
    refine (eqSignatureS _ _ _ _ _ _ _ _ _ og0.has ow0.has (by omega) (by omega) (by omega)).mono ?_
    rintro e w5 ⟨rfl, m5⟩
    have M5 := M4.trans m5
    have z5 := m5.size
    replace k1_0 := m5.cellAt k1_0
    replace k1_1 := m5.cellAt k1_1
    replace h4 := h4.mk m5 (by omega) (.inr (Nat.le_refl _))
    replace o3 := o3.mk m5 (by omega) (.inr (.inr (Nat.le_refl _)))
    replace ow0 := ow0.mk m5 (by omega) (.inr (.inr (Nat.le_refl _)))
    replace og0 := og0.mk m5 (by omega) (.inr (.inr (Nat.le_refl _)))
    go_wp2_with fail
    refine (toSignatureS _ _ _ w.heap.size _ _ (h0_.mk M5 (Nat.le_refl _) (.inr (Nat.le_refl _))) (by omega) (by omega)).mono ?_
    rintro e w6 ⟨b5, rfl, o6, m6⟩
    have M6 := M5.trans m6
    have z6 := m6.size
    replace k1_0 := m6.cellAt k1_0
    replace k1_1 := m6.cellAt k1_1
    replace h4 := h4.mk m6 (by omega) (.inr (Nat.le_refl _))
    replace o3 := o3.mk m6 (by omega) (.inr (.inr (Nat.le_refl _)))
    replace ow0 := ow0.mk m6 (by omega) (.inr (.inr (Nat.le_refl _)))
    replace og0 := og0.mk m6 (by omega) (.inr (.inr (Nat.le_refl _)))
    have h7 := o6.has.mono (B' := w6.heap.size) (by omega)
    clear o6
    go_wp2_with fail
    refine (eqSignatureS _ _ _ _ _ _ _ _ _ h4 h7 (by omega) (by omega) (by omega)).mono ?_
    rintro e w7 ⟨rfl, m7⟩
    have M7 := M6.trans m7
    have z7 := m7.size
    replace k1_0 := m7.cellAt k1_0
    replace k1_1 := m7.cellAt k1_1
    replace h4 := h4.mk m7 (by omega) (.inr (Nat.le_refl _))
    replace h7 := h7.mk m7 (by omega) (.inr (Nat.le_refl _))
    replace o3 := o3.mk m7 (by omega) (.inr (.inr (Nat.le_refl _)))
    replace ow0 := ow0.mk m7 (by omega) (.inr (.inr (Nat.le_refl _)))
    replace og0 := og0.mk m7 (by omega) (.inr (.inr (Nat.le_refl _)))
    go_wp2_with fail
    refine (markSignatureS _ _ _ wz1.heap.size w2.heap.size _ _ _ o3 (by omega) (by omega) (by omega)).mono ?_
    rintro e w8 ⟨rfl, m8⟩
    have M8 := M7.andR m8 (.inl (by omega))
    have z8 := m8.size
    replace k1_0 := m8.cellAtR k1_0 (by omega)
    replace k1_1 := m8.cellAtR k1_1 (by omega)
    replace ow0 := ow0.mk m8 (by omega) (by omega)
    replace og0 := og0.mk m8 (by omega) (by omega)
    go_wp2_with fail
    refine (eqSignatureS _ _ _ _ _ _ _ _ _ og0.has ow0.has (by omega) (by omega) (by omega)).mono ?_
    rintro e w9 ⟨rfl, m9⟩
    have M9 := M8.trans m9
    have z9 := m9.size
    replace k1_0 := m9.cellAt k1_0
    replace k1_1 := m9.cellAt k1_1
    replace ow0 := ow0.mk m9 (by omega) (.inr (.inr (Nat.le_refl _)))
    replace og0 := og0.mk m9 (by omega) (.inr (.inr (Nat.le_refl _)))
    go_wp2_with fail
    refine (markSignatureM _ _ _ w3.heap.size w4.heap.size _ _ _ og0 (by omega) (by omega) (by omega)).mono ?_
    rintro e w10 ⟨rfl, oo10, m10⟩
    replace og0 := oo10
    clear oo10
    have M10 := M9.andR m10 (.inl (by omega))
    have z10 := m10.size
    replace k1_0 := m10.cellAtR k1_0 (by omega)
    replace k1_1 := m10.cellAtR k1_1 (by omega)
    replace ow0 := ow0.mk m10 (by omega) (by omega)
    go_wp2_with fail
    refine (heldSignatureM _ _ _ _ _ _ og0.has (by omega) (by omega) (by omega)).mono ?_
    rintro e w' ⟨rfl, rfl⟩
    go_wp2_with fail
    have e8 : ∀ w', Mk0 w10 w' → HasSignature w' w.heap.size a0_ n0_ z0_ := fun w' m => h0_.mk (M10.trans m) (Nat.le_refl _) (.inr (Nat.le_refl _))
    have hN0_ : n0_ ≤ 1048576 := by omega
    go_region_held3 (fun w' => Mk0 w10 w' ∧ w'.cell? ⟨w.heap.size, 0, none⟩ = some (.int .i64 a1_0) ∧ w'.cell? ⟨w.heap.size, 1, none⟩ = some (.int .i64 a1_1)) (first | exact ⟨Mk.drew1 _, k1_0, k1_1⟩ | (obtain ⟨s0, s1, s2⟩ := ‹Mk0 w10 _ ∧ _›; exact ⟨s0.trans mm, mm.cellAt s1, mm.cellAt s2⟩)) (first | (go_at_call 39; with_reducible refine (toSignatureS a0_ n0_ c0_ w.heap.size z0_ _ (e8 _ (‹Mk0 w10 _ ∧ _›).1) (M10.trans (‹Mk0 w10 _ ∧ _›).1).size hN0_).mono ?_; rintro e wc0 ⟨bc0_0, rfl, oc0_0, mc0⟩; have mm := mc0) | (go_at_call 40; with_reducible refine (toSignatureI a1_0 a1_1 _).mono ?_; rintro e wf1 ⟨rfl, mf1⟩; have mm := mf1) | (go_at_call 41; refine (implAddSig ⟨a1_0, a1_1⟩ _ _ _ _ z0_ _ (by first | exact (oc0_0.has.mono (Nat.le_refl _)) | exact (oc0_0.has.mono (Nat.le_refl _)).mk mf1 (Nat.le_refl _) (.inr (Nat.le_refl _))) (by first | exact Nat.le_refl _ | exact mf1.size) hN0_ (fun h => by cases h) (Nat.le_refl _)).mono ?_; rintro e wz11 ⟨A11, N11, c11, rfl, hc11, oh0, mm⟩))
    all_goals (
      obtain ⟨m11, k1_0, k1_1⟩ := ‹Mk0 w10 _ ∧ _›
      refine ‹∀ (a : Act) (w : World), _ → _› _ _ ?_
      clear e8 hN0_
      have M11 := M10.trans m11
      have z11 := m11.size
      replace oh0 := oh0.wide (lo' := w10.heap.size) (Nat.le_trans (mc0.size) mf1.size) (Nat.le_refl _)
      clear hc11
      obtain rfl : N1 = N11 := ow0.1.symm.trans oh0.1
      replace ow0 := ow0.mk m11 (by omega) (.inr (.inr (Nat.le_refl _)))
      replace og0 := og0.mk m11 (by omega) (.inr (.inr (Nat.le_refl _)))
      go_wp2_with fail
      refine (eqSignatureS _ _ _ _ _ _ _ _ _ oh0.has ow0.has (by omega) (by omega) (by omega)).mono ?_
      rintro e w12 ⟨rfl, m12⟩
      have M12 := M11.trans m12
      have z12 := m12.size
      replace k1_0 := m12.cellAt k1_0
      replace k1_1 := m12.cellAt k1_1
      replace ow0 := ow0.mk m12 (by omega) (.inr (.inr (Nat.le_refl _)))
      replace og0 := og0.mk m12 (by omega) (.inr (.inr (Nat.le_refl _)))
      replace oh0 := oh0.mk m12 (by omega) (.inr (.inr (Nat.le_refl _)))
      go_wp2_with fail
      refine (heldSignatureM _ _ _ _ _ _ og0.has (by omega) (by omega) (by omega)).mono ?_
      rintro e w' ⟨rfl, rfl⟩
      go_wp2_with fail
      go_ret
      exact ⟨rfl, M12.below0⟩))

set_option maxRecDepth 100000 in
theorem lifted (os : Os) (started : os.Started) (H : Type) (enc : TypeId × Value → H) :
    ReturnsInHanded {} Try.checked os 7 .any (Rows.fnExactAddSignatureSpec.pre6 enc Try.prog Try.f7 Rows.fnExactAddSignatureRow.domain false) (Rows.fnExactAddSignatureSpec.post enc Try.prog Try.f7 false true false false) := by
  refine returnsInHanded_of_change (C := Try.checked) own started (by kernel_rfl) Try.func7
    (ChangeSpec.witness6 (enc := enc) (C := Try.checked) false ⟨#[], #[.slice none 0 0, .agg #[.int .i64 0, .int .i64 0]], []⟩ 8 (by kernel_rfl) (by kernel_rfl) (by kernel_rfl) (by kernel_rfl)) ?_
  intro W base args ds gs before hval0 hW hcnd _
  have hval : ∀ (j : Nat) t v, Try.f7.params[j]? = some t → args[j]? = some v → Value.okWide Try.prog W .any base t v := hval0
  have hW' := hW
  obtain ⟨p, q, hA0, hV, rfl, hfz, hnd⟩ := hW
  have hA : DataW.TrodAll enc Try.prog W 0 (fun _ => true) true Try.f7.params.toList args.toList ds p := hA0
  rw [Try.params7] at hA hval
  obtain ⟨v0, vs0, d0, ds0, p0, q0, hargs, rfl, rfl, h0, r0⟩ := trodAll_cons hA
  obtain ⟨v1, vs1, d1, ds1, p1, q1, rfl, rfl, rfl, h1, r1⟩ := trodAll_cons r0
  obtain ⟨rfl, rfl, rfl⟩ := trodAll_nil r1
  obtain rfl : args = #[v0, v1] := by cases args; simp_all
  obtain ⟨rfl, rfl⟩ := trodVars_none hV
  have k0 := h0
  have lt0 : ∀ x ∈ p0, x.block < W.heap.size := by obtain ⟨m, hm⟩ := k0; exact DataW.trod_lt m _ _ _ hm
  obtain ⟨b0, l0, g0, rfl⟩ := okWide_slice Try.underlying59 (hval 0 59 v0 rfl rfl)
  obtain ⟨fu0, hfu0⟩ := h0
  rw [show (Value.slice b0 l0 g0).cells.toList = [.slice b0 l0 g0] from rfl] at hfu0
  obtain ⟨a0, n0, c0, z0, hv0, m0, h0, f0⟩ := openSignatureS hfu0
  injection hv0 with e1 e2 e3
  subst e1 e2 e3
  have k1 := h1
  have lt1 : ∀ x ∈ p1, x.block < W.heap.size := by obtain ⟨m, hm⟩ := k1; exact DataW.trod_lt m _ _ _ hm
  obtain ⟨cs1, rfl, hcs1, hf1⟩ := open_flat Try.underlying60 (by kernel_rfl) (by kernel_rfl) (hval 1 60 v1 rfl rfl) h1
  obtain ⟨_, e1_0, qi, _⟩ := hf1 0 _ rfl; obtain ⟨a1_0, rfl, w1_0⟩ := qi Try.underlying3
  obtain ⟨_, e1_1, qi, _⟩ := hf1 1 _ rfl; obtain ⟨a1_1, rfl, w1_1⟩ := qi Try.underlying3
  obtain rfl : cs1 = #[.int .i64 a1_0, .int .i64 a1_1] := arr_of [.int .i64 a1_0, .int .i64 a1_1] hcs1 (fun j hj => by match j, hj with | 0, _ => exact e1_0 | 1, _ => exact e1_1)
  clear hA0 hval0
  refine (walk b0 l0 g0 z0 a1_0 a1_1 W h0 m0 f0 w1_0 w1_1).mono fun e W' ⟨he, bel⟩ => ?_
  subst he
  exact ⟨_, rfl, _, _, _, [], _, [], hW', trodAll_mk1 (shut_bool Try.underlying4 _), (trodAll_cons_mk (Below.trod laidOut (by kernel_rfl) (of_decide_eq_true (by kernel_rfl)) k0 bel lt0) (trodAll_cons_mk (Below.trod laidOut (by kernel_rfl) (of_decide_eq_true (by kernel_rfl)) k1 bel lt1) trodAll_mk0)), rfl, bel.frame _, fun h => by cases h⟩

theorem over : Rows.fnExactAddSignatureRow.holds Try.pinned (OpenSpec.ofChange Rows.fnExactAddSignatureSpec) :=
  OpenClaim.holds_of_wide 7 Try.f7 rfl rfl rfl rfl rfl rfl rfl ⟨rfl, rfl, rfl, rfl, rfl⟩ rfl rfl rfl rfl rfl (by kernel_rfl) Try.func7 (by kernel_rfl)
    (of_decide_eq_true (by kernel_rfl)) (by unfold Func.isWrapper; first | (rw [if_pos (by decide +kernel)]; kernel_rfl) | (rw [if_neg (by decide +kernel)]; exact ⟨rfl, rfl⟩))
    (fun os started H enc _ => lifted os started H enc)

theorem proved : Rows.FnExactAddSignatureSaid := over
#print axioms proved
end Go.Proofs.Ytpkgpaeecjlnoaa.fnExactAddSignature
