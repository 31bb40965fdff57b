
/- The program's withoutLeading. -/
import Derived.Test.YtmpanhbjppnpbaaSgKind
namespace Go.Proofs.Ytmpanhbjppnpbaa
open Go.ChangeShapes Go.WideShapes Go.ChangeAt Go.RowKit
set_option linter.unusedVariables false
/-- A call that hands back a row of numbers that stands. -/
def OutIn (w : World) (B : Nat) (R : List Int) (e : Ending) (w' : World) : Prop :=
  ∃ A N c, e = .returned (.slice A N c) ∧ w = w' ∧ Has .i64 w B A N R ∧ N ≤ c
def lenOf : Value → Nat
  | .slice _ n _ => n
  | _ => 0
def restS (m : Int) (w : World) (B : Nat) (D : List Int) (v : Value) : Prop :=
  ∃ A N C L, v = .slice A N C ∧ Has .i64 w B A N L ∧ N ≤ C ∧ N ≤ 4194304 ∧ L.dropWhile (· == m) = D
theorem has_nil {w : World} {B : Nat} (A : Option Addr) : Has .i64 w B A 0 [] := ⟨rfl, fun h => absurd h (by omega)⟩
theorem has_tail {w : World} {B N b off : Nat} {z : Int} {L : List Int} (h : Has .i64 w B (some ⟨b, off, none⟩) (N + 1) (z :: L)) : Has .i64 w B (some ⟨b, off + 1, none⟩) N L := by
  refine ⟨by have := h.1; simpa using this, fun hN => ?_⟩
  obtain ⟨b', off', e, hb, hc⟩ := h.2 (by omega)
  simp only [Option.some.injEq, Addr.mk.injEq, and_true] at e
  obtain ⟨rfl, rfl⟩ := e
  refine ⟨b, off + 1, rfl, hb, fun i hi => ?_⟩
  have := hc (i + 1) (by omega)
  rw [show off + 1 + i = off + (i + 1) by omega, this]
  simp
set_option maxRecDepth 100000 in
set_option maxHeartbeats 4000000 in
theorem implDrop (m : Int) (a : Option Addr) (n c B : Nat) (zs : List Int) (w : World) (h : Has .i64 w B a n zs) (hn : n ≤ 4194304) (hc : n ≤ c) :
    Calls Try.prog 46 #[.int .i64 m, .slice a n c] w (OutIn w B (zs.dropWhile (· == m))) := by
  go_enter Try.func46, Try.ntmps46
  go_wp2_with fail
  go_loop [1] (fun v => restS m w B (zs.dropWhile (· == m)) v) (fun v => lenOf v)
  case atStart => exact ⟨a, n, c, zs, rfl, h, hc, hn, rfl⟩
  case round =>
    obtain ⟨A, N, C, L, rfl, hh, hNC, hN4, hD⟩ := hrel
    rcases N with _ | N
    · obtain rfl : L = [] := List.eq_nil_of_length_eq_zero hh.1
      have HD := Lib.hid hD
      clear hD
      go_wp2_with fail
      go_ret
      exact ⟨A, 0, C, rfl, rfl, HD.out ▸ has_nil A, hNC⟩
    · rcases L with _ | ⟨z, L⟩
      · have := hh.1; simp at this
      obtain ⟨b, off, z', rfl, hb, hz, c0⟩ := hh.at_ (i := 0) (by omega)
      obtain rfl : z = z' := by rw [hz.out]; rfl
      rw [Nat.add_zero] at c0
      have HH := Lib.hid hh
      have g0 : decide (0 < N + 1) = true := decide_eq_true (by omega)
      have g1 : decide ((0 : Int) < ((N + 1 : Nat) : Int)) = true := decide_eq_true (by omega)
      cases he : (z == m)
      · have HD := Lib.hid (show (z :: L).dropWhile (· == m) = z :: L by rw [List.dropWhile_cons, he]; rfl)
        have HD2 := Lib.hid hD
        clear hD hh
        go_wp2_with fail
        go_ret
        exact ⟨_, N + 1, C, rfl, rfl, by rw [← HD2.out, HD.out]; exact HH.out, hNC⟩
      · have HD := Lib.hid (show L.dropWhile (· == m) = zs.dropWhile (· == m) by rw [← hD, List.dropWhile_cons, he]; rfl)
        clear hD hh
        by_cases hC : C = 1
        · subst hC
          obtain rfl : N = 0 := by omega
          go_wp2_with fail
          go_round
          case rel => exact ⟨_, 0, 0, L, rfl, by have := HH.out.1; simp at this; subst this; exact has_nil _, by omega, by omega, HD.out⟩
          case measure => simp [lenOf]
        · have hC' : (C == 1) = false := by simpa using hC
          go_wp2_with fail
          go_round
          case rel => exact ⟨_, N, C - 1, L, rfl, has_tail HH.out, by omega, by omega, HD.out⟩
          case measure => simp [lenOf]

end Go.Proofs.Ytmpanhbjppnpbaa
