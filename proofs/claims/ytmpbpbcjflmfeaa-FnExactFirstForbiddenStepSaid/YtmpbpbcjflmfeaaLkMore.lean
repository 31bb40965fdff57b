
/- RemoteEnd and InterfaceKind of both sides. -/
import Derived.Test.YtmpbpbcjflmfeaaLkImpl
import Derived.Deep.QuietTactic
import Derived.BigQuiet
namespace Go.Proofs.Ytmpbpbcjflmfeaa
open Go.ChangeShapes Go.WideShapes Go.ChangeAt Go.RowKit
set_option linter.unusedVariables false
def remote (zs : List TLink) (r d : Int) (n : Nat) : Int × Int :=
  if lkIx zs r d n < 0 then (-1, 0) else
    if (zs.getD (lkIx zs r d n).toNat default).a = r ∧ (zs.getD (lkIx zs r d n).toNat default).ai = d then ((zs.getD (lkIx zs r d n).toNat default).b, (zs.getD (lkIx zs r d n).toNat default).bi)
    else ((zs.getD (lkIx zs r d n).toNat default).a, (zs.getD (lkIx zs r d n).toNat default).ai)
theorem remote_none {zs : List TLink} {r d : Int} {n : Nat} (h : lkIx zs r d n = -1) : remote zs r d n = (-1, 0) := by simp [remote, h]
theorem remote_a {zs : List TLink} {r d : Int} {n q : Nat} {x : TLink} (h : lkIx zs r d n = (q : Int)) (hx : x = zs.getD q default) (h1 : (x.a == r) = true) (h2 : (x.ai == d) = true) : remote zs r d n = (x.b, x.bi) := by
  subst hx
  have e : ((q : Nat) : Int).toNat = q := by omega
  unfold remote
  rw [h, e, if_neg (by omega), if_pos ⟨eq_of_beq h1, eq_of_beq h2⟩]
theorem remote_b {zs : List TLink} {r d : Int} {n q : Nat} {x : TLink} (h : lkIx zs r d n = (q : Int)) (hx : x = zs.getD q default) (h1 : (x.a == r) = false ∨ (x.ai == d) = false) : remote zs r d n = (x.a, x.ai) := by
  subst hx
  have e : ((q : Nat) : Int).toNat = q := by omega
  unfold remote
  rw [h, e, if_neg (by omega), if_neg (fun hh => by
    rcases h1 with h1 | h1
    · rw [hh.1] at h1; simp at h1
    · rw [hh.2] at h1; simp at h1)]
theorem ret_2 {a b : Int} {p : Int × Int} (h : p = (a, b)) : Ending.returned (.tuple #[.int .i64 a, .int .i64 b]) = .returned (.tuple #[.int .i64 p.1, .int .i64 p.2]) := by rw [h]
theorem lkIx_cases (zs : List TLink) (r d : Int) (n : Nat) : lkIx zs r d n = -1 ∨ ∃ q : Nat, lkIx zs r d n = (q : Int) ∧ q < n := by
  rcases firstIx_range (fun k => (zs.getD k default).uses r d) n 0 with h | ⟨q, h1, _, h2⟩
  · exact .inl h
  · exact .inr ⟨q, h1, by omega⟩

end Go.Proofs.Ytmpbpbcjflmfeaa
