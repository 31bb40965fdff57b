
/- LinkIndex of both sides: the first link that uses an interface. -/
import Derived.Test.YtbkbkpnpllemfaaCTopology
import Derived.Test.YtbkbkpnpllemfaaRow
import Derived.Laws.StructEq
import Derived.Deep.RegionHeld3
import Derived.Deep.QuietTactic
import Derived.BigQuiet
namespace Go.Proofs.Ytbkbkpnpllemfaa
open Go.ChangeShapes Go.WideShapes Go.ChangeAt Go.RowKit
set_option linter.unusedVariables false
def TLink.uses (x : TLink) (r d : Int) : Bool := (decide (x.a = r) && decide (x.ai = d)) || (decide (x.b = r) && decide (x.bi = d))
/-- The first index from k on, within m, at which p holds; -1 if there is none. -/
def firstIx (p : Nat → Bool) : Nat → Nat → Int
  | _, 0 => -1
  | k, m + 1 => if p k then (k : Int) else firstIx p (k + 1) m
def lkIx (zs : List TLink) (r d : Int) (n : Nat) : Int := firstIx (fun k => (zs.getD k default).uses r d) 0 n

theorem firstIx_hit {p : Nat → Bool} {k n : Nat} (hk : k < n) (hp : p k = true) : firstIx p k (n - k) = (k : Int) := by
  obtain ⟨m, hm⟩ : ∃ m, n - k = m + 1 := ⟨n - k - 1, by omega⟩
  rw [hm, firstIx, if_pos hp]
theorem firstIx_miss {p : Nat → Bool} {k n : Nat} (hk : k < n) (hp : p k = false) : firstIx p k (n - k) = firstIx p (k + 1) (n - (k + 1)) := by
  obtain ⟨m, hm⟩ : ∃ m, n - k = m + 1 := ⟨n - k - 1, by omega⟩
  rw [hm, firstIx, if_neg (by simp [hp]), show n - (k + 1) = m by omega]
theorem firstIx_end (p : Nat → Bool) (k : Nat) : firstIx p k (k - k) = -1 := by rw [Nat.sub_self, firstIx]
theorem firstIx_range (p : Nat → Bool) : ∀ m k : Nat, (firstIx p k m = -1 ∨ ∃ q : Nat, firstIx p k m = (q : Int) ∧ k ≤ q ∧ q < k + m)
  | 0, _ => .inl rfl
  | m + 1, k => by
    rw [firstIx]
    by_cases hp : p k = true
    · rw [if_pos hp]
      exact .inr ⟨k, rfl, by omega, by omega⟩
    · rw [if_neg hp]
      rcases firstIx_range p m (k + 1) with h | ⟨q, h1, h2, h3⟩
      · exact .inl h
      · exact .inr ⟨q, h1, by omega, by omega⟩

end Go.Proofs.Ytbkbkpnpllemfaa
namespace Go.Proofs.Ytbkbkpnpllemfaa
open Go.ChangeShapes Go.WideShapes Go.ChangeAt Go.RowKit
set_option linter.unusedVariables false
theorem port_keep2 {w W w3 : World} {r d : Int} {p : Nat} (m3 : Mk0 W w3) (P0 : W.cell? ⟨p, 0, none⟩ = some (.int .i64 r)) (P1 : W.cell? ⟨p, 1, none⟩ = some (.int .i64 d)) :
    w3.cell? ⟨p, 0, none⟩ = some (.int .i64 r) ∧ w3.cell? ⟨p, 1, none⟩ = some (.int .i64 d) :=
  ⟨(m3.cell (World.block_lt_of_cell? W _ P0) (.inr (Nat.zero_le _))).trans P0, (m3.cell (World.block_lt_of_cell? W _ P1) (.inr (Nat.zero_le _))).trans P1⟩
end Go.Proofs.Ytbkbkpnpllemfaa
namespace Go.Proofs.Ytbkbkpnpllemfaa
open Go.ChangeShapes Go.WideShapes Go.ChangeAt Go.RowKit
set_option linter.unusedVariables false
end Go.Proofs.Ytbkbkpnpllemfaa
namespace Go.Proofs.Ytbkbkpnpllemfaa
open Go.ChangeShapes Go.WideShapes Go.ChangeAt Go.RowKit
set_option linter.unusedVariables false
def remote (zs : List TLink) (r d : Int) (n : Nat) : Int × Int :=
  if lkIx zs r d n < 0 then (-1, 0) else
    if (zs.getD (lkIx zs r d n).toNat default).a = r ∧ (zs.getD (lkIx zs r d n).toNat default).ai = d then ((zs.getD (lkIx zs r d n).toNat default).b, (zs.getD (lkIx zs r d n).toNat default).bi)
    else ((zs.getD (lkIx zs r d n).toNat default).a, (zs.getD (lkIx zs r d n).toNat default).ai)
theorem remote_none {zs : List TLink} {r d : Int} {n : Nat} (h : lkIx zs r d n = -1) : remote zs r d n = (-1, 0) := by simp [remote, h]
theorem remote_a {zs : List TLink} {r d : Int} {n q : Nat} {x : TLink} (h : lkIx zs r d n = (q : Int)) (hx : x = zs.getD q default) (h1 : (x.a == r) = true) (h2 : (x.ai == d) = true) : remote zs r d n = (x.b, x.bi) := by
  subst hx
  have e : ((q : Nat) : Int).toNat = q := by omega
  unfold remote
  rw [h, e, if_neg (by omega), if_pos ⟨eq_of_beq h1, eq_of_beq h2⟩]
theorem remote_b {zs : List TLink} {r d : Int} {n q : Nat} {x : TLink} (h : lkIx zs r d n = (q : Int)) (hx : x = zs.getD q default) (h1 : (x.a == r) = false ∨ (x.ai == d) = false) : remote zs r d n = (x.a, x.ai) := by
  subst hx
  have e : ((q : Nat) : Int).toNat = q := by omega
  unfold remote
  rw [h, e, if_neg (by omega), if_neg (fun hh => by
    rcases h1 with h1 | h1
    · rw [hh.1] at h1; simp at h1
    · rw [hh.2] at h1; simp at h1)]
theorem ret_2 {a b : Int} {p : Int × Int} (h : p = (a, b)) : Ending.returned (.tuple #[.int .i64 a, .int .i64 b]) = .returned (.tuple #[.int .i64 p.1, .int .i64 p.2]) := by rw [h]
theorem lkIx_cases (zs : List TLink) (r d : Int) (n : Nat) : lkIx zs r d n = -1 ∨ ∃ q : Nat, lkIx zs r d n = (q : Int) ∧ q < n := by
  rcases firstIx_range (fun k => (zs.getD k default).uses r d) n 0 with h | ⟨q, h1, _, h2⟩
  · exact .inl h
  · exact .inr ⟨q, h1, by omega⟩

end Go.Proofs.Ytbkbkpnpllemfaa
namespace Go.Proofs.Ytbkbkpnpllemfaa
open Go.ChangeShapes Go.WideShapes Go.ChangeAt Go.RowKit
set_option linter.unusedVariables false


theorem kind_cases (k : Int) : ((k == 1) = true ∧ (k == 2) = false ∧ (k == 3) = false) ∨ ((k == 1) = false ∧ (k == 2) = true ∧ (k == 3) = false) ∨ ((k == 1) = false ∧ (k == 2) = false ∧ (k == 3) = true) ∨ ((k == 1) = false ∧ (k == 2) = false ∧ (k == 3) = false) := by
  by_cases h1 : k = 1
  · subst h1; exact .inl ⟨rfl, rfl, rfl⟩
  by_cases h2 : k = 2
  · subst h2; exact .inr (.inl ⟨rfl, rfl, rfl⟩)
  by_cases h3 : k = 3
  · subst h3; exact .inr (.inr (.inl ⟨rfl, rfl, rfl⟩))
  · exact .inr (.inr (.inr ⟨by simpa using h1, by simpa using h2, by simpa using h3⟩))
def kindOf (zs : List TLink) (r d : Int) (n : Nat) : Int :=
  if d = 0 then 5 else if lkIx zs r d n < 0 then 0 else
    if (zs.getD (lkIx zs r d n).toNat default).kind = 1 then 1
    else if (zs.getD (lkIx zs r d n).toNat default).kind = 2 then (if (zs.getD (lkIx zs r d n).toNat default).a = r ∧ (zs.getD (lkIx zs r d n).toNat default).ai = d then 2 else 3)
    else if (zs.getD (lkIx zs r d n).toNat default).kind = 3 then 4 else 0
theorem kindOf_self {zs : List TLink} {r d : Int} {n : Nat} (h : d = 0) : kindOf zs r d n = 5 := by simp [kindOf, h]
theorem kindOf_none {zs : List TLink} {r d : Int} {n : Nat} (h0 : (d == 0) = false) (h : lkIx zs r d n = -1) : kindOf zs r d n = 0 := by
  have : d ≠ 0 := by simpa using h0
  simp [kindOf, h, this]
theorem kindOf_at {zs : List TLink} {r d : Int} {n q : Nat} {x : TLink} (h0 : (d == 0) = false) (h : lkIx zs r d n = (q : Int)) (hx : x = zs.getD q default) :
    kindOf zs r d n = if x.kind = 1 then 1 else if x.kind = 2 then (if x.a = r ∧ x.ai = d then 2 else 3) else if x.kind = 3 then 4 else 0 := by
  subst hx
  have hd : d ≠ 0 := by simpa using h0
  have e : ((q : Nat) : Int).toNat = q := by omega
  unfold kindOf
  rw [h, e, if_neg hd, if_neg (by omega)]

end Go.Proofs.Ytbkbkpnpllemfaa
