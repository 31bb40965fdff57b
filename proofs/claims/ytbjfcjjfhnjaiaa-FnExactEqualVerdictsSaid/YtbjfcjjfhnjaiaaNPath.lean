
/- Path: rows of them: the laws' copy, equality and size. -/
import Derived.Test.YtbjfcjjfhnjaiaaCPath
import Derived.Test.YtbjfcjjfhnjaiaaNest
import Derived.Test.YtbjfcjjfhnjaiaaNPathPart
namespace Go.Proofs.Ytbjfcjjfhnjaiaa
open Go.ChangeShapes Go.WideShapes Go.ChangeAt Go.RowKit
set_option linter.unusedVariables false
structure TPath where (parts : List TPathPart)
instance : Inhabited TPath := ⟨⟨[]⟩⟩
def elPath (w : World) (B b o : Nat) (x : TPath) : Prop := ∃ a0 n0 c0, w.cell? ⟨b, o, none⟩ = some (.slice a0 n0 c0) ∧ HasPathPart w B a0 n0 x.parts ∧ n0 ≤ c0 ∧ c0 ≤ 9223372036854775807 ∧ (a0 = none → c0 = 0)
def owPath (w : World) (lo hi b o : Nat) (x : TPath) : Prop := ∃ g0 n0 l0 h0, (w.cell? ⟨b, o, none⟩ = some (.slice (some ⟨g0, 0, none⟩) n0 n0) ∧ w.frozen? ⟨b, o, none⟩ = false) ∧ OwnPathPart w l0 h0 (some ⟨g0, 0, none⟩) n0 x.parts ∧ lo ≤ l0 ∧ h0 ≤ hi ∧ n0 ≤ 9223372036854775807
def EPath : El TPath where
  nc := 1
  pos := by decide
  el := elPath
  far := fun h hm hb hB hr => by
    obtain ⟨a0, n0, c0, k0, r0, m0, t0, z0⟩ := h
    exact ⟨_, _, _, cell_kept k0 hm (by omega), r0.mk hm hB hr, m0, t0, z0⟩
  mono := fun h hB => by
    obtain ⟨a0, n0, c0, k0, r0, m0, t0, z0⟩ := h
    exact ⟨_, _, _, k0, r0.mono hB, m0, t0, z0⟩
  ow := owPath
  ow_mk := fun h hm hb hB h1 h2 => by
    obtain ⟨g0, n0, l0, h0, ⟨k0, f0⟩, r0, p0, q0, t0⟩ := h
    exact ⟨_, _, _, _, ⟨cell_kept k0 hm h1, frozen_kept f0 hm hb h1⟩, r0.mk hm (by omega) (by omega), p0, q0, t0⟩
  ow_set := fun h p u h1 h2 => by
    obtain ⟨g0, n0, l0, h0, ⟨k0, f0⟩, r0, p0, q0, t0⟩ := h
    exact ⟨_, _, _, _, ⟨cell_set k0 p u (by omega), frozen_set f0 p u⟩, r0.set p u (by omega), p0, q0, t0⟩
  ow_has := fun h => by
    obtain ⟨g0, n0, l0, h0, ⟨k0, f0⟩, r0, p0, q0, t0⟩ := h
    exact ⟨_, _, _, k0, r0.has.mono (by omega), Nat.le_refl _, t0, (fun e => by cases e)⟩
  ow_wide := fun h hh => by
    obtain ⟨g0, n0, l0, h0, ⟨k0, f0⟩, r0, p0, q0, t0⟩ := h
    exact ⟨_, _, _, _, ⟨k0, f0⟩, r0, p0, Nat.le_trans q0 hh, t0⟩
abbrev HasPath (w : World) (B : Nat) (a : Option Addr) (n : Nat) (zs : List TPath) : Prop := HasD EPath w B a n zs
abbrev OwnPath (w : World) (lo hi : Nat) (a : Option Addr) (n : Nat) (zs : List TPath) : Prop := OwnD EPath w lo hi a n zs
def sePath (x : TPath) : Nat := szPathPart x.parts x.parts.length
def szPath (ts : List TPath) (n : Nat) : Nat := n + sumTo sePath ts n
theorem szPath_n (ts : List TPath) (n : Nat) : n ≤ szPath ts n := Nat.le_add_right _ _
theorem szPath_at (ts : List TPath) {k n : Nat} (h : k < n) : sePath (ts.getD k default) + sumTo sePath ts k + n ≤ szPath ts n := by have := sumTo_at sePath ts h; unfold szPath; omega
theorem HasPath.at (w : World) (B n k : Nat) (a : Option Addr) (zs : List TPath) (h : HasPath w B a n zs) (hk : k < n) : ∃ b off x, a = some ⟨b, off, none⟩ ∧ b < B ∧ Hid (x = zs.getD k default) ∧ ∃ a0 n0 c0, w.cell? ⟨b, off + k, none⟩ = some (.slice a0 n0 c0) ∧ HasPathPart w B a0 n0 x.parts ∧ n0 ≤ c0 ∧ c0 ≤ 9223372036854775807 ∧ (a0 = none → c0 = 0) := by
  obtain ⟨b, off, x, e, hb, hx, hc⟩ := h.at_ hk
  have hc : elPath w B b (off + k * 1) x := hc
  rw [Nat.mul_one] at hc
  obtain ⟨a0, n0, c0, k0, r0, m0, t0, z0⟩ := hc
  exact ⟨b, off, x, e, hb, hx, _, _, _, k0, r0, m0, t0, z0⟩
theorem infoRPath : (Try.prog.info? 30).map (fun i => (i.zero, i.size, i.bytes)) = some (some (.agg #[.slice none 0 0]), 1, 24) := by kernel_rfl

end Go.Proofs.Ytbjfcjjfhnjaiaa
