
/- Preferred of both sides. -/
import Derived.Test.YtpfjjfbheliinaaNBeacon
import Derived.Test.YtpfjjfbheliinaaSegID
import Derived.Test.YtpfjjfbheliinaaWk
import Derived.Test.YtpfjjfbheliinaaRet
import Derived.Deep.RegionHeld3
namespace Go.Proofs.Ytpfjjfbheliinaa
open Go.ChangeShapes Go.WideShapes Go.ChangeAt Go.RowKit
set_option linter.unusedVariables false
def prefB (i x0 : Int) (n : Nat) (u : Int) (j y0 : Int) (n' : Nat) (v : Int) : Bool :=
  if n = n' then (if x0 = y0 then (if u = v then decide (i < j) else decide (u < v)) else decide (y0 < x0)) else decide ((n : Int) < (n' : Int))
set_option maxRecDepth 100000 in
set_option maxHeartbeats 4000000 in
theorem specPref (i x0 x1 j y0 y1 : Int) (a a' : Option Addr) (n n' c c' B B' : Nat) (zs zs' : List THop) (w : World) (h : HasHop w B a n zs) (h' : HasHop w B' a' n' zs') (hB : B ≤ w.heap.size) (hB' : B' ≤ w.heap.size) (hn : n ≤ 1048576) (hn' : n' ≤ 1048576) (f0 : (Lit.int .i64 x0).wf = true) (f1 : (Lit.int .i64 x1).wf = true) (f2 : ∀ y ∈ zs, THop.fits y) (g0 : (Lit.int .i64 y0).wf = true) (g1 : (Lit.int .i64 y1).wf = true) (g2 : ∀ y ∈ zs', THop.fits y) :
    Calls Try.prog 13 #[.agg #[.int .i64 i, .int .i64 x0, .int .i64 x1, .slice a n c], .agg #[.int .i64 j, .int .i64 y0, .int .i64 y1, .slice a' n' c']] w fun e w' => e = .returned (.bool (prefB i x0 n (segIdV x0 x1 zs n) j y0 n' (segIdV y0 y1 zs' n'))) ∧ Mk0 w w' := by
  have M0 := (Mk.alloc w (Obj.cells #[Value.int .i64 i, Value.int .i64 x0, Value.int .i64 x1, Value.slice a n c] 33)).new (Obj.cells #[Value.int .i64 j, Value.int .i64 y0, Value.int .i64 y1, Value.slice a' n' c'] 33)
  have i3 : (n : Int) ≤ 1048576 := by omega
  have i4 : (n' : Int) ≤ 1048576 := by omega
  have u0 : ((w.alloc (Obj.cells #[Value.int .i64 i, Value.int .i64 x0, Value.int .i64 x1, Value.slice a n c] 33)).alloc (Obj.cells #[Value.int .i64 j, Value.int .i64 y0, Value.int .i64 y1, Value.slice a' n' c'] 33)).cell? ⟨w.heap.size, 0, none⟩ = some (.int .i64 i) := by simp [go_sem]
  have u1 : ((w.alloc (Obj.cells #[Value.int .i64 i, Value.int .i64 x0, Value.int .i64 x1, Value.slice a n c] 33)).alloc (Obj.cells #[Value.int .i64 j, Value.int .i64 y0, Value.int .i64 y1, Value.slice a' n' c'] 33)).cell? ⟨w.heap.size, 1, none⟩ = some (.int .i64 x0) := by simp [go_sem]
  have u2 : ((w.alloc (Obj.cells #[Value.int .i64 i, Value.int .i64 x0, Value.int .i64 x1, Value.slice a n c] 33)).alloc (Obj.cells #[Value.int .i64 j, Value.int .i64 y0, Value.int .i64 y1, Value.slice a' n' c'] 33)).cell? ⟨w.heap.size, 2, none⟩ = some (.int .i64 x1) := by simp [go_sem]
  have u3 : ((w.alloc (Obj.cells #[Value.int .i64 i, Value.int .i64 x0, Value.int .i64 x1, Value.slice a n c] 33)).alloc (Obj.cells #[Value.int .i64 j, Value.int .i64 y0, Value.int .i64 y1, Value.slice a' n' c'] 33)).cell? ⟨w.heap.size, 3, none⟩ = some (.slice a n c) := by simp [go_sem]
  have t0 : ((w.alloc (Obj.cells #[Value.int .i64 i, Value.int .i64 x0, Value.int .i64 x1, Value.slice a n c] 33)).alloc (Obj.cells #[Value.int .i64 j, Value.int .i64 y0, Value.int .i64 y1, Value.slice a' n' c'] 33)).cell? ⟨w.heap.size + 1, 0, none⟩ = some (.int .i64 j) := by simp [go_sem]
  have t1 : ((w.alloc (Obj.cells #[Value.int .i64 i, Value.int .i64 x0, Value.int .i64 x1, Value.slice a n c] 33)).alloc (Obj.cells #[Value.int .i64 j, Value.int .i64 y0, Value.int .i64 y1, Value.slice a' n' c'] 33)).cell? ⟨w.heap.size + 1, 1, none⟩ = some (.int .i64 y0) := by simp [go_sem]
  have t2 : ((w.alloc (Obj.cells #[Value.int .i64 i, Value.int .i64 x0, Value.int .i64 x1, Value.slice a n c] 33)).alloc (Obj.cells #[Value.int .i64 j, Value.int .i64 y0, Value.int .i64 y1, Value.slice a' n' c'] 33)).cell? ⟨w.heap.size + 1, 2, none⟩ = some (.int .i64 y1) := by simp [go_sem]
  have t3 : ((w.alloc (Obj.cells #[Value.int .i64 i, Value.int .i64 x0, Value.int .i64 x1, Value.slice a n c] 33)).alloc (Obj.cells #[Value.int .i64 j, Value.int .i64 y0, Value.int .i64 y1, Value.slice a' n' c'] 33)).cell? ⟨w.heap.size + 1, 3, none⟩ = some (.slice a' n' c') := by simp [go_sem]
  obtain ⟨U, HU⟩ : ∃ U, Hid (segIdV x0 x1 zs n = U) := ⟨_, Lib.hid rfl⟩
  obtain ⟨V, HV⟩ : ∃ V, Hid (segIdV y0 y1 zs' n' = V) := ⟨_, Lib.hid rfl⟩
  go_enter Try.func13, Try.ntmps13
  go_wp2_with fail
  refine (specSegID x0 x1 a n c B zs _ (h.mk M0 hB (.inr (Nat.le_refl _))) (Nat.le_trans hB M0.size) hn f0 f1 f2).mono ?_
  rintro e w1 ⟨he, m1⟩
  rw [HU.out] at he
  subst he
  replace u0 := m1.cellAt u0
  replace u1 := m1.cellAt u1
  replace u2 := m1.cellAt u2
  replace u3 := m1.cellAt u3
  replace t0 := m1.cellAt t0
  replace t1 := m1.cellAt t1
  replace t2 := m1.cellAt t2
  replace t3 := m1.cellAt t3
  have M1 := M0.trans m1
  go_wp2_with fail
  refine (specSegID y0 y1 a' n' c' B' zs' _ (h'.mk M1 hB' (.inr (Nat.le_refl _))) (Nat.le_trans hB' M1.size) hn' g0 g1 g2).mono ?_
  rintro e w2 ⟨he, m2⟩
  rw [HV.out] at he
  subst he
  replace u0 := m2.cellAt u0
  replace u1 := m2.cellAt u1
  replace u2 := m2.cellAt u2
  replace u3 := m2.cellAt u3
  replace t0 := m2.cellAt t0
  replace t1 := m2.cellAt t1
  replace t2 := m2.cellAt t2
  replace t3 := m2.cellAt t3
  have M2 := M1.trans m2
  by_cases hz : n = n'
  · have hzz := hz
    subst hzz
    have hz1 : (((n : Int)) != ((n : Int))) = false := by simp
    cases hx : (x0 != y0)
    · have hxe : x0 = y0 := by simpa using hx
      cases hu : (U != V)
      · have hue : U = V := by simpa using hu
        have HR := Lib.hid (show prefB i x0 n U j y0 n V = decide (i < j) by unfold prefB; rw [if_pos rfl, if_pos hxe, if_pos hue])
        clear hxe hue
        go_wp2_with fail
        go_ret
        exact ⟨retB (by rw [HU.out, HV.out, HR.out]), M2⟩
      · have hue : ¬ U = V := by simpa using hu
        have HR := Lib.hid (show prefB i x0 n U j y0 n V = decide (U < V) by unfold prefB; rw [if_pos rfl, if_pos hxe, if_neg hue])
        clear hxe hue
        go_wp2_with fail
        go_ret
        exact ⟨retB (by rw [HU.out, HV.out, HR.out]), M2⟩
    · have hxe : ¬ x0 = y0 := by simpa using hx
      have HR := Lib.hid (show prefB i x0 n U j y0 n V = decide (y0 < x0) by unfold prefB; rw [if_pos rfl, if_neg hxe])
      clear hxe
      go_wp2_with fail
      go_ret
      exact ⟨retB (by rw [HU.out, HV.out, HR.out]), M2⟩
  · have hz1 : (((n : Int)) != ((n' : Int))) = true := by simp; omega
    have HR := Lib.hid (show prefB i x0 n U j y0 n' V = decide (n < n') by unfold prefB; rw [if_neg hz]; simp)
    go_wp2_with fail
    go_ret
    exact ⟨retB (by rw [HU.out, HV.out, HR.out]), M2⟩

end Go.Proofs.Ytpfjjfbheliinaa
