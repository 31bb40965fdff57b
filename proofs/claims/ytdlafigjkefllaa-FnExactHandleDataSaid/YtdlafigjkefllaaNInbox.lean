
/- Inbox: rows of them: the laws' copy, equality and size. -/
import Derived.Test.YtdlafigjkefllaaCInbox
import Derived.Test.YtdlafigjkefllaaNest
import Derived.Test.YtdlafigjkefllaaNMessage
namespace Go.Proofs.Ytdlafigjkefllaa
open Go.ChangeShapes Go.WideShapes Go.ChangeAt Go.RowKit
set_option linter.unusedVariables false
structure TInbox where (as_ : Int) (src : Int) (next : Int) (recv : List TMessage)
instance : Inhabited TInbox := ⟨⟨0, 0, 0, []⟩⟩
def elInbox (w : World) (B b o : Nat) (x : TInbox) : Prop := ∃ a3 n3 c3, w.cell? ⟨b, o, none⟩ = some (.int .i64 x.as_) ∧ w.cell? ⟨b, o + 1, none⟩ = some (.int .i64 x.src) ∧ w.cell? ⟨b, o + 2, none⟩ = some (.int .i64 x.next) ∧ w.cell? ⟨b, o + 3, none⟩ = some (.slice a3 n3 c3) ∧ HasMessage w B a3 n3 x.recv ∧ n3 ≤ c3 ∧ c3 ≤ 9223372036854775807 ∧ (a3 = none → c3 = 0)
def owInbox (w : World) (lo hi b o : Nat) (x : TInbox) : Prop := ∃ g3 n3 l3 h3, (w.cell? ⟨b, o, none⟩ = some (.int .i64 x.as_) ∧ w.frozen? ⟨b, o, none⟩ = false) ∧ (w.cell? ⟨b, o + 1, none⟩ = some (.int .i64 x.src) ∧ w.frozen? ⟨b, o + 1, none⟩ = false) ∧ (w.cell? ⟨b, o + 2, none⟩ = some (.int .i64 x.next) ∧ w.frozen? ⟨b, o + 2, none⟩ = false) ∧ (w.cell? ⟨b, o + 3, none⟩ = some (.slice (some ⟨g3, 0, none⟩) n3 n3) ∧ w.frozen? ⟨b, o + 3, none⟩ = false) ∧ OwnMessage w l3 h3 (some ⟨g3, 0, none⟩) n3 x.recv ∧ lo ≤ l3 ∧ h3 ≤ hi ∧ n3 ≤ 9223372036854775807
def EInbox : El TInbox where
  nc := 4
  pos := by decide
  el := elInbox
  far := fun h hm hb hB hr => by
    obtain ⟨a3, n3, c3, k0, k1, k2, k3, r3, m3, t3, z3⟩ := h
    exact ⟨_, _, _, cell_kept k0 hm (by omega), cell_kept k1 hm (by omega), cell_kept k2 hm (by omega), cell_kept k3 hm (by omega), r3.mk hm hB hr, m3, t3, z3⟩
  mono := fun h hB => by
    obtain ⟨a3, n3, c3, k0, k1, k2, k3, r3, m3, t3, z3⟩ := h
    exact ⟨_, _, _, k0, k1, k2, k3, r3.mono hB, m3, t3, z3⟩
  ow := owInbox
  ow_mk := fun h hm hb hB h1 h2 => by
    obtain ⟨g3, n3, l3, h3, ⟨k0, f0⟩, ⟨k1, f1⟩, ⟨k2, f2⟩, ⟨k3, f3⟩, r3, p3, q3, t3⟩ := h
    exact ⟨_, _, _, _, ⟨cell_kept k0 hm h1, frozen_kept f0 hm hb h1⟩, ⟨cell_kept k1 hm h1, frozen_kept f1 hm hb h1⟩, ⟨cell_kept k2 hm h1, frozen_kept f2 hm hb h1⟩, ⟨cell_kept k3 hm h1, frozen_kept f3 hm hb h1⟩, r3.mk hm (by omega) (by omega), p3, q3, t3⟩
  ow_set := fun h p u h1 h2 => by
    obtain ⟨g3, n3, l3, h3, ⟨k0, f0⟩, ⟨k1, f1⟩, ⟨k2, f2⟩, ⟨k3, f3⟩, r3, p3, q3, t3⟩ := h
    exact ⟨_, _, _, _, ⟨cell_set k0 p u (by omega), frozen_set f0 p u⟩, ⟨cell_set k1 p u (by omega), frozen_set f1 p u⟩, ⟨cell_set k2 p u (by omega), frozen_set f2 p u⟩, ⟨cell_set k3 p u (by omega), frozen_set f3 p u⟩, r3.set p u (by omega), p3, q3, t3⟩
  ow_has := fun h => by
    obtain ⟨g3, n3, l3, h3, ⟨k0, f0⟩, ⟨k1, f1⟩, ⟨k2, f2⟩, ⟨k3, f3⟩, r3, p3, q3, t3⟩ := h
    exact ⟨_, _, _, k0, k1, k2, k3, r3.has.mono (by omega), Nat.le_refl _, t3, (fun e => by cases e)⟩
  ow_wide := fun h hh => by
    obtain ⟨g3, n3, l3, h3, ⟨k0, f0⟩, ⟨k1, f1⟩, ⟨k2, f2⟩, ⟨k3, f3⟩, r3, p3, q3, t3⟩ := h
    exact ⟨_, _, _, _, ⟨k0, f0⟩, ⟨k1, f1⟩, ⟨k2, f2⟩, ⟨k3, f3⟩, r3, p3, Nat.le_trans q3 hh, t3⟩
abbrev HasInbox (w : World) (B : Nat) (a : Option Addr) (n : Nat) (zs : List TInbox) : Prop := HasD EInbox w B a n zs
abbrev OwnInbox (w : World) (lo hi : Nat) (a : Option Addr) (n : Nat) (zs : List TInbox) : Prop := OwnD EInbox w lo hi a n zs
def seInbox (x : TInbox) : Nat := szMessage x.recv x.recv.length
def szInbox (ts : List TInbox) (n : Nat) : Nat := n + sumTo seInbox ts n
theorem szInbox_n (ts : List TInbox) (n : Nat) : n ≤ szInbox ts n := Nat.le_add_right _ _
theorem szInbox_at (ts : List TInbox) {k n : Nat} (h : k < n) : seInbox (ts.getD k default) + sumTo seInbox ts k + n ≤ szInbox ts n := by have := sumTo_at seInbox ts h; unfold szInbox; omega
theorem HasInbox.at (w : World) (B n k : Nat) (a : Option Addr) (zs : List TInbox) (h : HasInbox w B a n zs) (hk : k < n) : ∃ b off x, a = some ⟨b, off, none⟩ ∧ b < B ∧ Hid (x = zs.getD k default) ∧ ∃ a3 n3 c3, w.cell? ⟨b, off + k * 4, none⟩ = some (.int .i64 x.as_) ∧ w.cell? ⟨b, off + k * 4 + 1, none⟩ = some (.int .i64 x.src) ∧ w.cell? ⟨b, off + k * 4 + 2, none⟩ = some (.int .i64 x.next) ∧ w.cell? ⟨b, off + k * 4 + 3, none⟩ = some (.slice a3 n3 c3) ∧ HasMessage w B a3 n3 x.recv ∧ n3 ≤ c3 ∧ c3 ≤ 9223372036854775807 ∧ (a3 = none → c3 = 0) := by
  obtain ⟨b, off, x, e, hb, hx, hc⟩ := h.at_ hk
  obtain ⟨a3, n3, c3, k0, k1, k2, k3, r3, m3, t3, z3⟩ := hc
  exact ⟨b, off, x, e, hb, hx, _, _, _, k0, k1, k2, k3, r3, m3, t3, z3⟩
theorem infoRInbox : (Try.prog.info? 59).map (fun i => (i.zero, i.size, i.bytes)) = some (some (.agg #[.int .i64 0, .int .i64 0, .int .i64 0, .slice none 0 0]), 4, 48) := by kernel_rfl

end Go.Proofs.Ytdlafigjkefllaa
