
/- For every byte slice, the law on DecodeRevocation returns true; no further condition. -/
import Derived.Test.YtoicmmandniagaaRows
import Derived.WalkKit
import Derived.ProofKit
import Derived.OpenShut
import Derived.ShutString
import Derived.ChangeOld
import Derived.Below
import Derived.Test.YtoicmmandniagaaDRev
import Derived.Test.YtoicmmandniagaaByteR
import Derived.Test.YtoicmmandniagaaSRevocation
namespace Go.Proofs.Ytoicmmandniagaa.fnExactDecodeRevocation
open Go.ChangeShapes Go.WideShapes Go.ChangeAt Go.RowKit
open Go.ChangeMaps (open_string shut_string)
set_option linter.unusedVariables false

theorem own : ownKnob Try.prog.godebug = none := by kernel_rfl
theorem laidOut : laidOutB Try.prog = true := by kernel_rfl

set_option maxRecDepth 100000 in
set_option maxHeartbeats 4000000 in
theorem walk (a0_ : Option Addr) (n0_ c0_ : Nat) (z0_ : List Int) (w : World) (h0_ : HasByte w w.heap.size a0_ n0_ z0_) (m0_ : n0_ ≤ 9223372036854775807) (f0_ : ∀ z ∈ z0_, (Lit.int .u8 z).wf = true) :
    Calls Try.prog 5 #[.slice a0_ n0_ c0_] w fun e w' => e = .returned (.bool true) ∧ Below w.heap.size w w' := by
  by_cases hbig0 : 1048576 < n0_
  · have hb0 : (1048576 : Int) < (n0_ : Int) := by omega
    go_enter Try.func5, Try.ntmps5
    go_wp2_with fail
    have M0 : Mk0 w w := Mk.refl 0 0 w
    go_ret
    exact ⟨rfl, M0.below0⟩
  have hn0 : n0_ ≤ 1048576 := by omega
  have hp0 : (n0_ : Int) ≤ 1048576 := by omega
  clear hbig0
  go_enter Try.func5, Try.ntmps5
  go_wp2_with fail
  have M0 : Mk0 w w := Mk.refl 0 0 w
  refine (toByteS _ _ _ w.heap.size _ _ (h0_.mk M0 (Nat.le_refl _) (.inr (Nat.le_refl _))) (by omega) (by omega)).mono ?_
  rintro e w1 ⟨b1, rfl, o2, m1⟩
  have M1 := M0.trans m1
  have z1 := m1.size
  have h3 := o2.has.mono (B' := w1.heap.size) (by omega)
  clear o2
  go_wp2_with fail
  refine (specDRev _ n0_ _ z0_ _ ((hasR_int.1 h3).mono (by omega)) f0_ (by omega) (Nat.le_refl _)).mono ?_
  rintro e w2 ⟨rfl, m2⟩
  have M2 := M1.trans m2
  have z2 := m2.size
  replace h3 := h3.mk m2 (by omega) (.inr (Nat.le_refl _))
  go_wp2_with fail
  have xw0_0 : (w2.alloc (Obj.cells #[Value.int .i64 (dr0 (drO z0_)), Value.int .i64 (dr1 (drO z0_)), Value.int .i64 (dr2 (drO z0_))] 50)).cell? ⟨w2.heap.size, 0, none⟩ = some (.int .i64 (dr0 (drO z0_))) := by rw [World.cell?_alloc_at _ _ _ _ rfl]; rfl
  have xw0_1 : (w2.alloc (Obj.cells #[Value.int .i64 (dr0 (drO z0_)), Value.int .i64 (dr1 (drO z0_)), Value.int .i64 (dr2 (drO z0_))] 50)).cell? ⟨w2.heap.size, 1, none⟩ = some (.int .i64 (dr1 (drO z0_))) := by rw [World.cell?_alloc_at _ _ _ _ rfl]; rfl
  have xw0_2 : (w2.alloc (Obj.cells #[Value.int .i64 (dr0 (drO z0_)), Value.int .i64 (dr1 (drO z0_)), Value.int .i64 (dr2 (drO z0_))] 50)).cell? ⟨w2.heap.size, 2, none⟩ = some (.int .i64 (dr2 (drO z0_))) := by rw [World.cell?_alloc_at _ _ _ _ rfl]; rfl
  have m3 := Mk.alloc w2 (Obj.cells #[Value.int .i64 (dr0 (drO z0_)), Value.int .i64 (dr1 (drO z0_)), Value.int .i64 (dr2 (drO z0_))] 50)
  replace h3 := h3.mk m3 (by omega) (.inr (Nat.le_refl _))
  have M3 := M2.trans m3
  have z3 := m3.size
  have zz3 : w2.heap.size < (w2.alloc (Obj.cells #[Value.int .i64 (dr0 (drO z0_)), Value.int .i64 (dr1 (drO z0_)), Value.int .i64 (dr2 (drO z0_))] 50)).heap.size := by rw [World.size_alloc]; omega
  generalize (w2.alloc (Obj.cells #[Value.int .i64 (dr0 (drO z0_)), Value.int .i64 (dr1 (drO z0_)), Value.int .i64 (dr2 (drO z0_))] 50)) = w3 at *
  refine (toByteS _ _ _ w.heap.size _ _ (h0_.mk M3 (Nat.le_refl _) (.inr (Nat.le_refl _))) (by omega) (by omega)).mono ?_
  rintro e w4 ⟨b4, rfl, o5, m4⟩
  have M4 := M3.trans m4
  have z4 := m4.size
  replace xw0_0 := m4.cellAt xw0_0
  replace xw0_1 := m4.cellAt xw0_1
  replace xw0_2 := m4.cellAt xw0_2
  have h6 := o5.has.mono (B' := w4.heap.size) (by omega)
  clear o5
  go_wp2_with fail
  refine (implDRev _ n0_ _ z0_ _ ((hasR_int.1 h6).mono (by omega)) f0_ (by omega) (Nat.le_refl _)).mono ?_
  rintro e w5 ⟨rfl, m5⟩
  have M5 := M4.trans m5
  have z5 := m5.size
  replace xw0_0 := m5.cellAt xw0_0
  replace xw0_1 := m5.cellAt xw0_1
  replace xw0_2 := m5.cellAt xw0_2
  replace h6 := h6.mk m5 (by omega) (.inr (Nat.le_refl _))
  have yb7 : w2.heap.size < w5.heap.size := by omega
  go_wp2_with fail
  have xg0_0 : (w5.alloc (Obj.cells #[Value.int .i64 (dr0 (drO z0_)), Value.int .i64 (dr1 (drO z0_)), Value.int .i64 (dr2 (drO z0_))] 50)).cell? ⟨w5.heap.size, 0, none⟩ = some (.int .i64 (dr0 (drO z0_))) := by rw [World.cell?_alloc_at _ _ _ _ rfl]; rfl
  have xg0_1 : (w5.alloc (Obj.cells #[Value.int .i64 (dr0 (drO z0_)), Value.int .i64 (dr1 (drO z0_)), Value.int .i64 (dr2 (drO z0_))] 50)).cell? ⟨w5.heap.size, 1, none⟩ = some (.int .i64 (dr1 (drO z0_))) := by rw [World.cell?_alloc_at _ _ _ _ rfl]; rfl
  have xg0_2 : (w5.alloc (Obj.cells #[Value.int .i64 (dr0 (drO z0_)), Value.int .i64 (dr1 (drO z0_)), Value.int .i64 (dr2 (drO z0_))] 50)).cell? ⟨w5.heap.size, 2, none⟩ = some (.int .i64 (dr2 (drO z0_))) := by rw [World.cell?_alloc_at _ _ _ _ rfl]; rfl
  have m6 := Mk.alloc w5 (Obj.cells #[Value.int .i64 (dr0 (drO z0_)), Value.int .i64 (dr1 (drO z0_)), Value.int .i64 (dr2 (drO z0_))] 50)
  replace xw0_0 := m6.cellAt xw0_0
  replace xw0_1 := m6.cellAt xw0_1
  replace xw0_2 := m6.cellAt xw0_2
  replace h6 := h6.mk m6 (by omega) (.inr (Nat.le_refl _))
  have M6 := M5.trans m6
  have z6 := m6.size
  have zz6 : w5.heap.size < (w5.alloc (Obj.cells #[Value.int .i64 (dr0 (drO z0_)), Value.int .i64 (dr1 (drO z0_)), Value.int .i64 (dr2 (drO z0_))] 50)).heap.size := by rw [World.size_alloc]; omega
  generalize (w5.alloc (Obj.cells #[Value.int .i64 (dr0 (drO z0_)), Value.int .i64 (dr1 (drO z0_)), Value.int .i64 (dr2 (drO z0_))] 50)) = w6 at *
  refine (eqRevocationV ⟨dr0 (drO z0_), dr1 (drO z0_), dr2 (drO z0_)⟩ _).mono ?_
  rintro e w7 ⟨rfl, m7⟩
  have M7 := M6.trans m7
  have z7 := m7.size
  replace xw0_0 := m7.cellAt xw0_0
  replace xw0_1 := m7.cellAt xw0_1
  replace xw0_2 := m7.cellAt xw0_2
  replace xg0_0 := m7.cellAt xg0_0
  replace xg0_1 := m7.cellAt xg0_1
  replace xg0_2 := m7.cellAt xg0_2
  replace h6 := h6.mk m7 (by omega) (.inr (Nat.le_refl _))
  go_wp2_with fail
  refine (toByteS _ _ _ w.heap.size _ _ (h0_.mk M7 (Nat.le_refl _) (.inr (Nat.le_refl _))) (by omega) (by omega)).mono ?_
  rintro e w8 ⟨b8, rfl, o9, m8⟩
  have M8 := M7.trans m8
  have z8 := m8.size
  replace xw0_0 := m8.cellAt xw0_0
  replace xw0_1 := m8.cellAt xw0_1
  replace xw0_2 := m8.cellAt xw0_2
  replace xg0_0 := m8.cellAt xg0_0
  replace xg0_1 := m8.cellAt xg0_1
  replace xg0_2 := m8.cellAt xg0_2
  replace h6 := h6.mk m8 (by omega) (.inr (Nat.le_refl _))
  have h10 := o9.has.mono (B' := w8.heap.size) (by omega)
  clear o9
  go_wp2_with fail
  refine (eqByteS _ _ _ _ _ _ _ _ _ h6 h10 (by omega) (by omega) (by omega)).mono ?_
  rintro e w9 ⟨rfl, m9⟩
  have M9 := M8.trans m9
  have z9 := m9.size
  replace xw0_0 := m9.cellAt xw0_0
  replace xw0_1 := m9.cellAt xw0_1
  replace xw0_2 := m9.cellAt xw0_2
  replace xg0_0 := m9.cellAt xg0_0
  replace xg0_1 := m9.cellAt xg0_1
  replace xg0_2 := m9.cellAt xg0_2
  replace h6 := h6.mk m9 (by omega) (.inr (Nat.le_refl _))
  replace h10 := h10.mk m9 (by omega) (.inr (Nat.le_refl _))
  go_wp2_with fail
  go_ret
  exact ⟨rfl, M9.below0⟩

set_option maxRecDepth 100000 in
theorem lifted (os : Os) (started : os.Started) (H : Type) (enc : TypeId × Value → H) :
    ReturnsInHanded {} Try.checked os 5 .any (Rows.fnExactDecodeRevocationSpec.pre6 enc Try.prog Try.f5 Rows.fnExactDecodeRevocationRow.domain false) (Rows.fnExactDecodeRevocationSpec.post enc Try.prog Try.f5 false true false false) := by
  refine returnsInHanded_of_change (C := Try.checked) own started (by kernel_rfl) Try.func5
    (ChangeSpec.witness6 (enc := enc) (C := Try.checked) false ⟨#[], #[.slice none 0 0], []⟩ 8 (by kernel_rfl) (by kernel_rfl) (by kernel_rfl) (by kernel_rfl)) ?_
  intro W base args ds gs before hval0 hW hcnd _
  have hval : ∀ (j : Nat) t v, Try.f5.params[j]? = some t → args[j]? = some v → Value.okWide Try.prog W .any base t v := hval0
  have hW' := hW
  obtain ⟨p, q, hA0, hV, rfl, hfz, hnd⟩ := hW
  have hA : DataW.TrodAll enc Try.prog W 0 (fun _ => true) true Try.f5.params.toList args.toList ds p := hA0
  rw [Try.params5] at hA hval
  obtain ⟨v0, vs0, d0, ds0, p0, q0, hargs, rfl, rfl, h0, r0⟩ := trodAll_cons hA
  obtain ⟨rfl, rfl, rfl⟩ := trodAll_nil r0
  obtain rfl : args = #[v0] := by cases args; simp_all
  obtain ⟨rfl, rfl⟩ := trodVars_none hV
  obtain ⟨a0, len0, cap0, rfl⟩ := okWide_slice Try.underlying22 (hval 0 22 v0 rfl rfl)
  have k0 := h0
  have lt0 : ∀ x ∈ p0, x.block < W.heap.size := by obtain ⟨m, hm⟩ := k0; exact DataW.trod_lt m _ _ _ hm
  obtain ⟨z0, w0⟩ : ∃ zs, IsRow .u8 W a0 len0 cap0 zs := by
    obtain ⟨fuel, hf⟩ := h0
    rcases open_ints Try.underlying22 Try.underlying5 (by kernel_rfl) hf with ⟨hcs, _⟩ | ⟨x, l, c, zs, hcs, _, hl, hm, hz, _, hcell, hwz⟩
    · simp [Value.cells] at hcs
      obtain ⟨rfl, rfl, rfl⟩ := hcs
      exact ⟨[], .inl ⟨rfl, rfl, rfl, rfl⟩⟩
    · simp [Value.cells] at hcs
      obtain ⟨rfl, rfl, rfl⟩ := hcs
      exact ⟨zs, .inr ⟨_, rfl, hl, hm, by simpa using hz, hcell, hwz⟩⟩
  clear hA0 hval0
  refine (walk a0 len0 cap0 (z0.take len0) W (hasR_int.2 w0.has) (isrow_len w0) w0.fits).mono fun e W' ⟨he, bel⟩ => ?_
  subst he
  exact ⟨_, rfl, _, _, _, [], _, [], hW', trodAll_mk1 (shut_bool Try.underlying4 _), (trodAll_cons_mk (Below.trod laidOut (by kernel_rfl) (of_decide_eq_true (by kernel_rfl)) k0 bel lt0) trodAll_mk0), rfl, bel.frame _, fun h => by cases h⟩

theorem over : Rows.fnExactDecodeRevocationRow.holds Try.pinned (OpenSpec.ofChange Rows.fnExactDecodeRevocationSpec) :=
  OpenClaim.holds_of_wide 5 Try.f5 rfl rfl rfl rfl rfl rfl rfl ⟨rfl, rfl, rfl, rfl, rfl⟩ rfl rfl rfl rfl rfl (by kernel_rfl) Try.func5 (by kernel_rfl)
    (of_decide_eq_true (by kernel_rfl)) (by unfold Func.isWrapper; first | (rw [if_pos (by decide +kernel)]; kernel_rfl) | (rw [if_neg (by decide +kernel)]; exact ⟨rfl, rfl⟩))
    (fun os started H enc _ => lifted os started H enc)

theorem proved : Rows.FnExactDecodeRevocationSaid := over
#print axioms proved
end Go.Proofs.Ytoicmmandniagaa.fnExactDecodeRevocation
