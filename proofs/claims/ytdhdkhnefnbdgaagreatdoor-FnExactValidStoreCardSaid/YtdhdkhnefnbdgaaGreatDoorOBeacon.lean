
/- Beacon: a slice of them that came in. -/
import Derived.Test.YtdhdkhnefnbdgaaGreatDoorNBeacon
import Derived.Test.YtdhdkhnefnbdgaaGreatDoorOpenR
import Derived.Test.YtdhdkhnefnbdgaaGreatDoorOHop
namespace Go.Proofs.YtdhdkhnefnbdgaaGreatDoor
open Go Go.RowKit Go.ChangeShapes Go.WideShapes Go.Deep
set_option linter.unusedVariables false
def TBeacon.fits (x : TBeacon) : Prop := (Lit.int .i64 x.ing).wf = true ∧ (Lit.int .i64 x.ts).wf = true ∧ (Lit.int .i64 x.beta).wf = true ∧ ∀ y ∈ x.hops, THop.fits y
theorem openBeaconC {H : Type} {enc : TypeId × Value → H} {w : World} {base : Nat} {spare : Nat → Bool} {held : Bool} {fuel : Nat} {c : Value} {x : DataW H × List MemPlace} (h : DataW.trod enc Tryz.prog w base spare held fuel 44 [c] = some x) :
    ∃ a len cap zs, c = .slice a len cap ∧ (len ≤ cap ∧ cap ≤ 9223372036854775807 ∧ (a = none → cap = 0)) ∧ HasBeacon w w.heap.size a len zs ∧ ∀ x ∈ zs, TBeacon.fits x := by
  obtain ⟨a, len, cap, rfl, ⟨hl, hc, h0⟩, hr⟩ := open_rowsN 4 (e := 77) Tryz.underlying44 (by kernel_rfl) (by decide) h
  have hl' : len ≤ cap ∧ cap ≤ 9223372036854775807 ∧ (a = none → cap = 0) := ⟨hl, Nat.le_trans hc (by unfold maxLen; omega), h0⟩
  by_cases hz : len = 0
  · subst hz
    exact ⟨a, 0, cap, [], rfl, hl', HasD.none_ _ _ _ _, fun x hx => by cases hx⟩
  · obtain ⟨b, off, rfl, hb, hx⟩ := hr (by omega)
    obtain ⟨zs, h1, h2⟩ := hasD_of EBeacon (Q := TBeacon.fits) (off := off) hb (fun i hi => by
      obtain ⟨cs, hcs, hL, hw⟩ := hx i hi
      have L0 := lf_field (a := 0) (b := 1) 0 _ Tryz.underlying77 rfl rfl (by kernel_rfl) (by decide) hL
      obtain ⟨_, _, _, e0, t0⟩ := lf_leaf (o := 0) (by rw [hcs]; decide) L0
      have c0 := hw _ _ e0
      obtain ⟨v0, rfl, f0⟩ := one_int Tryz.underlying3 t0
      have L1 := lf_field (a := 1) (b := 3) 1 _ Tryz.underlying77 rfl rfl (by kernel_rfl) (by decide) hL
      have L1x0 := lf_field (a := 0) (b := 1) 0 _ Tryz.underlying28 rfl rfl (by kernel_rfl) (by decide) L1
      obtain ⟨_, _, _, e1, t1⟩ := lf_leaf (o := 1) (by rw [hcs]; decide) L1x0
      have c1 := hw _ _ e1
      obtain ⟨v1, rfl, f1⟩ := one_int Tryz.underlying3 t1
      have L1x1 := lf_field (a := 1) (b := 1) 1 _ Tryz.underlying28 rfl rfl (by kernel_rfl) (by decide) L1
      obtain ⟨_, _, _, e2, t2⟩ := lf_leaf (o := 2) (by rw [hcs]; decide) L1x1
      have c2 := hw _ _ e2
      obtain ⟨v2, rfl, f2⟩ := one_int Tryz.underlying3 t2
      have L1x2 := lf_field (a := 2) (b := 1) 2 _ Tryz.underlying28 rfl rfl (by kernel_rfl) (by decide) L1
      obtain ⟨_, _, _, e3, t3⟩ := lf_leaf (o := 3) (by rw [hcs]; decide) L1x2
      have c3 := hw _ _ e3
      obtain ⟨a3, n3, c3_, z3, rfl, ⟨p3, q3, s3⟩, r3, f3⟩ := openHopC t3
      exact ⟨⟨v0, v1, v2, z3⟩, ⟨f0, f1, f2, f3⟩, a3, n3, c3_, c0, c1, c2, c3, r3, p3, q3, s3⟩)
    exact ⟨_, len, cap, zs, rfl, hl', h1, h2⟩
theorem openBeaconS {H : Type} {enc : TypeId × Value → H} {w : World} {base : Nat} {spare : Nat → Bool} {held : Bool} {fuel : Nat} {c : Value} {x : DataW H × List MemPlace} (h : DataW.trod enc Tryz.prog w base spare held fuel 44 [c] = some x) :
    ∃ a len cap zs, c = .slice a len cap ∧ len ≤ 9223372036854775807 ∧ HasBeacon w w.heap.size a len zs ∧ ∀ x ∈ zs, TBeacon.fits x := by
  obtain ⟨a, len, cap, zs, e, ⟨h1, h2, _⟩, h3, h4⟩ := openBeaconC h
  exact ⟨a, len, cap, zs, e, Nat.le_trans h1 h2, h3, h4⟩
end Go.Proofs.YtdhdkhnefnbdgaaGreatDoor
