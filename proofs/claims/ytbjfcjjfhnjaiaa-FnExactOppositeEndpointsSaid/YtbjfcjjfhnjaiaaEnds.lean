
/- The endpoints of a path, of both sides. -/
import Derived.Test.YtbjfcjjfhnjaiaaStepI
import Derived.Test.YtbjfcjjfhnjaiaaStepS
import Derived.Deep.QuietTactic
import Derived.BigQuiet
namespace Go.Proofs.Ytbjfcjjfhnjaiaa
open Go.ChangeShapes Go.WideShapes Go.ChangeAt Go.RowKit
set_option linter.unusedVariables false
def epA (l : List TStep) : Int := if l.length = 0 then -1 else (l.getD 0 default).nd
def epB (l : List TStep) : Int := if l.length = 0 then -1 else (lastS l).nd
theorem ret_ab {a b c d : Int} (h : a = c) (k : b = d) : Ending.returned (.tuple #[.int .i64 a, .int .i64 b]) = .returned (.tuple #[.int .i64 c, .int .i64 d]) := by rw [h, k]
set_option maxRecDepth 100000 in
set_option maxHeartbeats 4000000 in
theorem specEnds (a : Option Addr) (n c B : Nat) (ps : List TPathPart) (w : World) (h : HasPathPart w B a n ps) (hB : B ≤ w.heap.size) (hn : szPathPart ps n ≤ 1048576) :
    Calls Try.prog 15 #[.agg #[.slice a n c]] w fun e w' => e = .returned (.tuple #[.int .i64 (epA (pathSt ps n)), .int .i64 (epB (pathSt ps n))]) ∧ Mk0 w w' := by
  have M0 := Mk.alloc w (Obj.cells #[Value.slice a n c] 30)
  go_enter Try.func15, Try.ntmps15
  go_wp2_with fail
  refine (specPathSteps a n c B ps _ (h.mk M0 hB (.inr (Nat.le_refl _))) (Nat.le_trans hB M0.size) hn).mono ?_
  rintro e w2 ⟨A, N, cc, rfl, hcc, oo, m2⟩
  have M2 := M0.trans m2
  have hN := oo.1
  have hNb : N ≤ 1048576 := by have := pathSt_le ps n; omega
  rcases Nat.eq_zero_or_pos N with h0 | hpos
  · subst h0
    have HA := Lib.hid (show epA (pathSt ps n) = -1 from if_pos hN)
    have HB := Lib.hid (show epB (pathSt ps n) = -1 from if_pos hN)
    go_wp2_with fail
    refine bodyPost_ret (results_tmp2 rfl _ _ _) rfl ?_
    exact ⟨ret_ab HA.out.symm HB.out.symm, M2⟩
  · obtain ⟨m, hm⟩ : ∃ m, Hid (N = m + 1) := ⟨N - 1, by show N = N - 1 + 1; omega⟩
    obtain ⟨b, off, x, rfl, hb, hx, c0, c1, c2⟩ := HasStep.at _ _ _ _ _ _ oo.has hpos
    simp only [Nat.zero_mul, Nat.add_zero] at c0 c1 c2
    obtain ⟨b', off', y, e', hb', hy, d0, d1, d2⟩ := HasStep.at _ _ _ _ _ _ oo.has (show m < N by have := hm.out; omega)
    simp only [Option.some.injEq, Addr.mk.injEq, and_true] at e'
    obtain ⟨rfl, rfl⟩ := e'
    have HA := Lib.hid (show epA (pathSt ps n) = x.nd by unfold epA; rw [if_neg (by omega), ← hx.out])
    have HB := Lib.hid (show epB (pathSt ps n) = y.nd by unfold epB lastS; rw [if_neg (by omega), hN, hm.out, Nat.add_sub_cancel, ← hy.out])
    have hw : IntKind.i64.wrap ((N : Int) - 1) = (m : Int) := by have := hm.out; rw [show (N : Int) - 1 = (m : Int) by omega]; rw [IntKind.wrap_i64]; omega
    have i1 : (0 : Int) ≤ (m : Int) := by omega
    have i2 : (m : Int) < (N : Int) := by have := hm.out; omega
    have i3 : (0 : Int) < (N : Int) := by omega
    have i4 : ((N : Int) == 0) = false := by simp; omega
    go_wp2_with fail
    go_quiet (fail)
    go_wp2_with fail
    refine bodyPost_ret (results_tmp2 rfl _ _ _) rfl ?_
    exact ⟨ret_ab HA.out.symm HB.out.symm, M2.trans (Mk.drewN _ _)⟩

set_option maxRecDepth 100000 in
set_option maxHeartbeats 4000000 in
theorem implEnds (a : Option Addr) (n c B : Nat) (ps : List TPathPart) (w : World) (h : HasPathPart w B a n ps) (hB : B ≤ w.heap.size) (hn : szPathPart ps n ≤ 1048576) :
    Calls Try.prog 17 #[.agg #[.slice a n c]] w fun e w' => e = .returned (.tuple #[.int .i64 (epA (pathSt ps n)), .int .i64 (epB (pathSt ps n))]) ∧ Mk0 w w' := by
  have M0 := Mk.alloc w (Obj.cells #[Value.slice a n c] 30)
  go_enter Try.func17, Try.ntmps17
  go_wp2_with fail
  refine (implStepsOf a n c B ps _ (h.mk M0 hB (.inr (Nat.le_refl _))) (Nat.le_trans hB M0.size) hn).mono ?_
  rintro e w2 ⟨A, N, cc, rfl, hcc, oo, m2⟩
  have M2 := M0.trans m2
  have hN := oo.1
  have hNb : N ≤ 1048576 := by have := pathSt_le ps n; omega
  rcases Nat.eq_zero_or_pos N with h0 | hpos
  · subst h0
    have HA := Lib.hid (show epA (pathSt ps n) = -1 from if_pos hN)
    have HB := Lib.hid (show epB (pathSt ps n) = -1 from if_pos hN)
    go_wp2_with fail
    refine bodyPost_ret (results_tmp2 rfl _ _ _) rfl ?_
    exact ⟨ret_ab HA.out.symm HB.out.symm, M2⟩
  · obtain ⟨m, hm⟩ : ∃ m, Hid (N = m + 1) := ⟨N - 1, by show N = N - 1 + 1; omega⟩
    obtain ⟨b, off, x, rfl, hb, hx, c0, c1, c2⟩ := HasStep.at _ _ _ _ _ _ oo.has hpos
    simp only [Nat.zero_mul, Nat.add_zero] at c0 c1 c2
    obtain ⟨b', off', y, e', hb', hy, d0, d1, d2⟩ := HasStep.at _ _ _ _ _ _ oo.has (show m < N by have := hm.out; omega)
    simp only [Option.some.injEq, Addr.mk.injEq, and_true] at e'
    obtain ⟨rfl, rfl⟩ := e'
    have HA := Lib.hid (show epA (pathSt ps n) = x.nd by unfold epA; rw [if_neg (by omega), ← hx.out])
    have HB := Lib.hid (show epB (pathSt ps n) = y.nd by unfold epB lastS; rw [if_neg (by omega), hN, hm.out, Nat.add_sub_cancel, ← hy.out])
    have hw : IntKind.i64.wrap ((N : Int) - 1) = (m : Int) := by have := hm.out; rw [show (N : Int) - 1 = (m : Int) by omega]; rw [IntKind.wrap_i64]; omega
    have i1 : (0 : Int) ≤ (m : Int) := by omega
    have i2 : (m : Int) < (N : Int) := by have := hm.out; omega
    have i3 : (0 : Int) < (N : Int) := by omega
    have i4 : ((N : Int) == 0) = false := by simp; omega
    go_wp2_with fail
    go_quiet (fail)
    go_wp2_with fail
    refine bodyPost_ret (results_tmp2 rfl _ _ _) rfl ?_
    exact ⟨ret_ab HA.out.symm HB.out.symm, M2.trans (Mk.drewN _ _)⟩

def oppB (l k : List TStep) : Bool := (epA l == epB k) && (epB l == epA k)
set_option maxRecDepth 100000 in
set_option maxHeartbeats 4000000 in
theorem specOpp (a a' : Option Addr) (n n' c c' B B' : Nat) (ps ps' : List TPathPart) (w : World) (h : HasPathPart w B a n ps) (h' : HasPathPart w B' a' n' ps') (hB : B ≤ w.heap.size) (hB' : B' ≤ w.heap.size) (hn : szPathPart ps n ≤ 1048576) (hn' : szPathPart ps' n' ≤ 1048576) :
    Calls Try.prog 37 #[.agg #[.slice a n c], .agg #[.slice a' n' c']] w fun e w' => e = .returned (.bool (oppB (pathSt ps n) (pathSt ps' n'))) ∧ Mk0 w w' := by
  have M0 := (Mk.alloc w (Obj.cells #[Value.slice a n c] 30)).new (Obj.cells #[Value.slice a' n' c'] 30)
  have k0 : ((w.alloc (Obj.cells #[Value.slice a n c] 30)).alloc (Obj.cells #[Value.slice a' n' c'] 30)).cell? ⟨w.heap.size + 1, 0, none⟩ = some (.slice a' n' c') := by simp [go_sem]
  go_enter Try.func37, Try.ntmps37
  go_wp2_with fail
  refine (specEnds a n c B ps _ (h.mk M0 hB (.inr (Nat.le_refl _))) (Nat.le_trans hB M0.size) hn).mono ?_
  rintro e w2 ⟨rfl, m2⟩
  have M2 := M0.trans m2
  replace k0 := m2.cellAt k0
  go_wp2_with fail
  refine (specEnds a' n' c' B' ps' _ (h'.mk M2 hB' (.inr (Nat.le_refl _))) (Nat.le_trans hB' M2.size) hn').mono ?_
  rintro e w3 ⟨rfl, m3⟩
  cases e0 : (epA (pathSt ps n) == epB (pathSt ps' n'))
  · have HR := Lib.hid (show oppB (pathSt ps n) (pathSt ps' n') = false by unfold oppB; rw [e0]; rfl)
    go_wp2_with fail
    go_ret
    exact ⟨retB HR.out.symm, M2.trans m3⟩
  · have HR := Lib.hid (show oppB (pathSt ps n) (pathSt ps' n') = (epB (pathSt ps n) == epA (pathSt ps' n')) by unfold oppB; rw [e0]; rfl)
    go_wp2_with fail
    go_ret
    exact ⟨retB HR.out.symm, M2.trans m3⟩

set_option maxRecDepth 100000 in
set_option maxHeartbeats 4000000 in
theorem implOpp (a a' : Option Addr) (n n' c c' B B' : Nat) (ps ps' : List TPathPart) (w : World) (h : HasPathPart w B a n ps) (h' : HasPathPart w B' a' n' ps') (hB : B ≤ w.heap.size) (hB' : B' ≤ w.heap.size) (hn : szPathPart ps n ≤ 1048576) (hn' : szPathPart ps' n' ≤ 1048576) :
    Calls Try.prog 38 #[.agg #[.slice a n c], .agg #[.slice a' n' c']] w fun e w' => e = .returned (.bool (oppB (pathSt ps n) (pathSt ps' n'))) ∧ Mk0 w w' := by
  have M0 := (Mk.alloc w (Obj.cells #[Value.slice a n c] 30)).new (Obj.cells #[Value.slice a' n' c'] 30)
  have k0 : ((w.alloc (Obj.cells #[Value.slice a n c] 30)).alloc (Obj.cells #[Value.slice a' n' c'] 30)).cell? ⟨w.heap.size + 1, 0, none⟩ = some (.slice a' n' c') := by simp [go_sem]
  go_enter Try.func38, Try.ntmps38
  go_wp2_with fail
  refine (implEnds a n c B ps _ (h.mk M0 hB (.inr (Nat.le_refl _))) (Nat.le_trans hB M0.size) hn).mono ?_
  rintro e w2 ⟨rfl, m2⟩
  have M2 := M0.trans m2
  replace k0 := m2.cellAt k0
  go_wp2_with fail
  refine (implEnds a' n' c' B' ps' _ (h'.mk M2 hB' (.inr (Nat.le_refl _))) (Nat.le_trans hB' M2.size) hn').mono ?_
  rintro e w3 ⟨rfl, m3⟩
  cases e0 : (epA (pathSt ps n) == epB (pathSt ps' n'))
  · have HR := Lib.hid (show oppB (pathSt ps n) (pathSt ps' n') = false by unfold oppB; rw [e0]; rfl)
    go_wp2_with fail
    go_ret
    exact ⟨retB HR.out.symm, M2.trans m3⟩
  · have HR := Lib.hid (show oppB (pathSt ps n) (pathSt ps' n') = (epB (pathSt ps n) == epA (pathSt ps' n')) by unfold oppB; rw [e0]; rfl)
    go_wp2_with fail
    go_ret
    exact ⟨retB HR.out.symm, M2.trans m3⟩

end Go.Proofs.Ytbjfcjjfhnjaiaa
