
/- Extend, Terminate: what they share. -/
import Derived.Test.YtbbcpdgdihdmiaaGreatDoorCext
import Derived.Test.YtbbcpdgdihdmiaaGreatDoorSegC
import Derived.Test.YtbbcpdgdihdmiaaGreatDoorAllows
import Derived.Test.YtbbcpdgdihdmiaaGreatDoorPol
import Derived.Test.YtbbcpdgdihdmiaaGreatDoorHop
namespace Go.Proofs.YtbbcpdgdihdmiaaGreatDoor
open Go.ChangeShapes Go.WideShapes Go.ChangeAt Go.RowKit
set_option linter.unusedVariables false
def onV (k : Int) : Int := if k = 1 then 1 else 2
def exV (p : TPolicy) (x0 : Int) : Int := minV (wrap64 (x0 + p.life)) 1000000
def nwMac (zA : List TAS) (p : TPolicy) (x0 x1 : Int) (hs : List THop) (n : Nat) (r i o : Int) : Int := macV (zA.getD r.toNat default).key (hopL x0 (betaV x1 hs n (n : Int)) r i o (exV p x0))
/-- The hop that is put on. -/
def nwHop (zA : List TAS) (p : TPolicy) (x0 x1 : Int) (hs : List THop) (n : Nat) (r i o : Int) : THop := ⟨r, i, o, exV p x0, nwMac zA p x0 x1 hs n r i o⟩
def teB (n0 : Nat) (zA : List TAS) (zl : List TLink) (n1 : Nat) (p : TPolicy) (x0 x1 : Int) (hs : List THop) (n : Nat) (r i : Int) : Bool := ceB n0 zA zl n1 x0 x1 hs n r i && polB p hs n 0
def exB (n0 : Nat) (zA : List TAS) (zl : List TLink) (n1 : Nat) (p : TPolicy) (x0 x1 : Int) (hs : List THop) (n : Nat) (r i o : Int) : Bool :=
  ceB n0 zA zl n1 x0 x1 hs n r i && inB o 1 6 && !(o == i) && polB p hs n o && (kindOf zl r o n1 == onV (sgKd n0 zA zl n1 hs n))
theorem ceB_as {n0 : Nat} {zA : List TAS} {zl : List TLink} {n1 : Nat} {x0 x1 : Int} {hs : List THop} {n : Nat} {r i : Int} (h : ceB n0 zA zl n1 x0 x1 hs n r i = true) : isAsB n0 r = true := by
  unfold ceB at h
  simp only [Bool.and_eq_true] at h
  exact h.1.1.1.1
theorem exV_fits (p : TPolicy) (x0 : Int) : (Lit.int .i64 (exV p x0)).wf = true := by
  have h := RowKit.wrap64_wf (x0 + p.life)
  unfold exV minV
  split
  · decide
  · exact h
def OutTSegment (x0 x1 : Int) (R : List THop) (b : Bool) (w : World) (e : Ending) (w' : World) : Prop :=
  ∃ A N C, e = .returned (.tuple #[.agg #[.int .i64 x0, .int .i64 x1, .slice A N C], .bool b]) ∧ ((A = none → C = 0) ∧ N ≤ C) ∧ OwnHop w' w.heap.size w'.heap.size A N R ∧ Mk0 w w'
def growR (zA : List TAS) (p : TPolicy) (x0 x1 : Int) (hs : List THop) (n : Nat) (r i o : Int) : Bool → List THop
  | true => hs ++ [nwHop zA p x0 x1 hs n r i o]
  | false => hs
set_option maxRecDepth 100000 in
set_option maxHeartbeats 4000000 in
theorem implIsIf (d : Int) (w : World) : Calls Tryz.prog 96 #[.int .i64 d] w fun e w' => e = .returned (.bool (inB d 1 6)) ∧ w = w' := by
  go_enter Tryz.func96, Tryz.ntmps96
  go_wp2_with fail
  refine (implIn d 1 6 _).mono ?_
  rintro e w' ⟨rfl, rfl⟩
  go_wp2_with fail
  go_ret
  exact ⟨rfl, rfl⟩

set_option maxRecDepth 100000 in
set_option maxHeartbeats 4000000 in
theorem implOnw (k : Int) (w : World) : Calls Tryz.prog 100 #[.int .i64 k] w fun e w' => e = .returned (.int .i64 (onV k)) ∧ w = w' := by
  by_cases h : k = 1
  · subst h
    go_enter Tryz.func100, Tryz.ntmps100
    go_wp2
    go_ret
    exact ⟨rfl, rfl⟩
  · have h1 : (k == 1) = false := by simpa using h
    go_enter Tryz.func100, Tryz.ntmps100
    go_wp2
    go_ret
    exact ⟨retI (by unfold onV; rw [if_neg h]), rfl⟩

end Go.Proofs.YtbbcpdgdihdmiaaGreatDoor
