
/- Preferred of the program. -/
import Derived.Test.YtpfjjfbheliinaaPref
import Derived.RegionTactic
import Derived.ChangeAlike
import Derived.BigRegion
import Derived.BigQuiet
namespace Go.Proofs.Ytpfjjfbheliinaa
open Go.ChangeShapes Go.WideShapes Go.ChangeAt Go.RowKit
set_option linter.unusedVariables false
set_option maxRecDepth 100000 in
set_option maxHeartbeats 4000000 in
theorem implPref (i x0 x1 j y0 y1 : Int) (a a' : Option Addr) (n n' c c' B B' : Nat) (zs zs' : List THop) (w : World) (h : HasHop w B a n zs) (h' : HasHop w B' a' n' zs') (hB : B ≤ w.heap.size) (hB' : B' ≤ w.heap.size) (hn : n ≤ 1048576) (hn' : n' ≤ 1048576) (f0 : (Lit.int .i64 x0).wf = true) (f1 : (Lit.int .i64 x1).wf = true) (f2 : ∀ y ∈ zs, THop.fits y) (g0 : (Lit.int .i64 y0).wf = true) (g1 : (Lit.int .i64 y1).wf = true) (g2 : ∀ y ∈ zs', THop.fits y) :
    Calls Try.prog 15 #[.agg #[.int .i64 i, .int .i64 x0, .int .i64 x1, .slice a n c], .agg #[.int .i64 j, .int .i64 y0, .int .i64 y1, .slice a' n' c']] w fun e w' => e = .returned (.bool (prefB i x0 n (segIdV x0 x1 zs n) j y0 n' (segIdV y0 y1 zs' n'))) ∧ Mk0 w w' := by
  have M0 := (Mk.alloc w (Obj.cells #[Value.int .i64 i, Value.int .i64 x0, Value.int .i64 x1, Value.slice a n c] 33)).new (Obj.cells #[Value.int .i64 j, Value.int .i64 y0, Value.int .i64 y1, Value.slice a' n' c'] 33)
  have i3 : (n : Int) ≤ 1048576 := by omega
  have i4 : (n' : Int) ≤ 1048576 := by omega
  have u0 : ((w.alloc (Obj.cells #[Value.int .i64 i, Value.int .i64 x0, Value.int .i64 x1, Value.slice a n c] 33)).alloc (Obj.cells #[Value.int .i64 j, Value.int .i64 y0, Value.int .i64 y1, Value.slice a' n' c'] 33)).cell? ⟨w.heap.size, 0, none⟩ = some (.int .i64 i) := by simp [go_sem]
  have u1 : ((w.alloc (Obj.cells #[Value.int .i64 i, Value.int .i64 x0, Value.int .i64 x1, Value.slice a n c] 33)).alloc (Obj.cells #[Value.int .i64 j, Value.int .i64 y0, Value.int .i64 y1, Value.slice a' n' c'] 33)).cell? ⟨w.heap.size, 1, none⟩ = some (.int .i64 x0) := by simp [go_sem]
  have u2 : ((w.alloc (Obj.cells #[Value.int .i64 i, Value.int .i64 x0, Value.int .i64 x1, Value.slice a n c] 33)).alloc (Obj.cells #[Value.int .i64 j, Value.int .i64 y0, Value.int .i64 y1, Value.slice a' n' c'] 33)).cell? ⟨w.heap.size, 2, none⟩ = some (.int .i64 x1) := by simp [go_sem]
  have u3 : ((w.alloc (Obj.cells #[Value.int .i64 i, Value.int .i64 x0, Value.int .i64 x1, Value.slice a n c] 33)).alloc (Obj.cells #[Value.int .i64 j, Value.int .i64 y0, Value.int .i64 y1, Value.slice a' n' c'] 33)).cell? ⟨w.heap.size, 3, none⟩ = some (.slice a n c) := by simp [go_sem]
  have t0 : ((w.alloc (Obj.cells #[Value.int .i64 i, Value.int .i64 x0, Value.int .i64 x1, Value.slice a n c] 33)).alloc (Obj.cells #[Value.int .i64 j, Value.int .i64 y0, Value.int .i64 y1, Value.slice a' n' c'] 33)).cell? ⟨w.heap.size + 1, 0, none⟩ = some (.int .i64 j) := by simp [go_sem]
  have t1 : ((w.alloc (Obj.cells #[Value.int .i64 i, Value.int .i64 x0, Value.int .i64 x1, Value.slice a n c] 33)).alloc (Obj.cells #[Value.int .i64 j, Value.int .i64 y0, Value.int .i64 y1, Value.slice a' n' c'] 33)).cell? ⟨w.heap.size + 1, 1, none⟩ = some (.int .i64 y0) := by simp [go_sem]
  have t2 : ((w.alloc (Obj.cells #[Value.int .i64 i, Value.int .i64 x0, Value.int .i64 x1, Value.slice a n c] 33)).alloc (Obj.cells #[Value.int .i64 j, Value.int .i64 y0, Value.int .i64 y1, Value.slice a' n' c'] 33)).cell? ⟨w.heap.size + 1, 2, none⟩ = some (.int .i64 y1) := by simp [go_sem]
  have t3 : ((w.alloc (Obj.cells #[Value.int .i64 i, Value.int .i64 x0, Value.int .i64 x1, Value.slice a n c] 33)).alloc (Obj.cells #[Value.int .i64 j, Value.int .i64 y0, Value.int .i64 y1, Value.slice a' n' c'] 33)).cell? ⟨w.heap.size + 1, 3, none⟩ = some (.slice a' n' c') := by simp [go_sem]
  have sz0 : w.heap.size < ((w.alloc (Obj.cells #[Value.int .i64 i, Value.int .i64 x0, Value.int .i64 x1, Value.slice a n c] 33)).alloc (Obj.cells #[Value.int .i64 j, Value.int .i64 y0, Value.int .i64 y1, Value.slice a' n' c'] 33)).heap.size := by simp [go_sem]
  have sz1 : w.heap.size + 1 < ((w.alloc (Obj.cells #[Value.int .i64 i, Value.int .i64 x0, Value.int .i64 x1, Value.slice a n c] 33)).alloc (Obj.cells #[Value.int .i64 j, Value.int .i64 y0, Value.int .i64 y1, Value.slice a' n' c'] 33)).heap.size := by simp [go_sem]
  have M0 := Lib.hid M0
  have h := Lib.hid h
  have h' := Lib.hid h'
  go_enter Try.func15, Try.ntmps15
  go_wp2_with fail
  generalize hwq : ((w.alloc (Obj.cells #[Value.int .i64 i, Value.int .i64 x0, Value.int .i64 x1, Value.slice a n c] 33)).alloc (Obj.cells #[Value.int .i64 j, Value.int .i64 y0, Value.int .i64 y1, Value.slice a' n' c'] 33)) = wq at *
  clear hwq
  go_region
  · have mq := ((Mk.alloc wq (Obj.cells #[Value.int .i64 x0, Value.int .i64 x1, Value.slice a n c] 31)).new (Obj.cells #[Value.int .i64 y0, Value.int .i64 y1, Value.slice a' n' c'] 31)).trans (Mk.drew1 _)
    have v0 : ((wq.alloc (Obj.cells #[Value.int .i64 x0, Value.int .i64 x1, Value.slice a n c] 31)).alloc (Obj.cells #[Value.int .i64 y0, Value.int .i64 y1, Value.slice a' n' c'] 31)).drew.cell? ⟨wq.heap.size, 0, none⟩ = some (.int .i64 x0) := by simp [go_sem]
    have v1 : ((wq.alloc (Obj.cells #[Value.int .i64 x0, Value.int .i64 x1, Value.slice a n c] 31)).alloc (Obj.cells #[Value.int .i64 y0, Value.int .i64 y1, Value.slice a' n' c'] 31)).drew.cell? ⟨wq.heap.size, 1, none⟩ = some (.int .i64 x1) := by simp [go_sem]
    have v2 : ((wq.alloc (Obj.cells #[Value.int .i64 x0, Value.int .i64 x1, Value.slice a n c] 31)).alloc (Obj.cells #[Value.int .i64 y0, Value.int .i64 y1, Value.slice a' n' c'] 31)).drew.cell? ⟨wq.heap.size, 2, none⟩ = some (.slice a n c) := by simp [go_sem]
    have s0 : ((wq.alloc (Obj.cells #[Value.int .i64 x0, Value.int .i64 x1, Value.slice a n c] 31)).alloc (Obj.cells #[Value.int .i64 y0, Value.int .i64 y1, Value.slice a' n' c'] 31)).drew.cell? ⟨wq.heap.size + 1, 0, none⟩ = some (.int .i64 y0) := by simp [go_sem]
    have s1 : ((wq.alloc (Obj.cells #[Value.int .i64 x0, Value.int .i64 x1, Value.slice a n c] 31)).alloc (Obj.cells #[Value.int .i64 y0, Value.int .i64 y1, Value.slice a' n' c'] 31)).drew.cell? ⟨wq.heap.size + 1, 1, none⟩ = some (.int .i64 y1) := by simp [go_sem]
    have s2 : ((wq.alloc (Obj.cells #[Value.int .i64 x0, Value.int .i64 x1, Value.slice a n c] 31)).alloc (Obj.cells #[Value.int .i64 y0, Value.int .i64 y1, Value.slice a' n' c'] 31)).drew.cell? ⟨wq.heap.size + 1, 2, none⟩ = some (.slice a' n' c') := by simp [go_sem]
    replace u0 := mq.cellAt u0
    replace t0 := mq.cellAt t0
    have M := M0.out.trans mq
    clear u1 u2 u3 t1 t2 t3 mq sz0 sz1
    obtain ⟨p, hp⟩ : ∃ p, wq.heap.size = p := ⟨_, rfl⟩
    obtain ⟨q, hq⟩ : ∃ q, wq.heap.size + 1 = q := ⟨_, rfl⟩
    rw [hp] at v0 v1 v2
    rw [hq] at s0 s1 s2
    generalize ((wq.alloc (Obj.cells #[Value.int .i64 x0, Value.int .i64 x1, Value.slice a n c] 31)).alloc (Obj.cells #[Value.int .i64 y0, Value.int .i64 y1, Value.slice a' n' c'] 31)).drew = wr at *
    simp only [hq]
    simp only [hp]
    clear hp hq
    by_cases hz : n = n'
    · have hzz := hz
      subst hzz
      have hz1 : (((n : Int)) != ((n : Int))) = false := by simp
      cases hx : (x0 != y0)
      · have hxe := Lib.hid (show x0 = y0 by simpa using hx)
        go_wp2_with fail
        cases hu0 : ((segIdV x0 x1 zs n) != (segIdV y0 y1 zs' n))
        · have hu := Lib.hid hu0
          clear hu0
          skip
          refine wp_region_wk (fun w' => Mk0 wr w' ∧ w'.cell? ⟨w.heap.size, 0, none⟩ = some (.int .i64 i) ∧ w'.cell? ⟨w.heap.size + 1, 0, none⟩ = some (.int .i64 j) ∧ w'.cell? ⟨p, 0, none⟩ = some (.int .i64 x0) ∧ w'.cell? ⟨p, 1, none⟩ = some (.int .i64 x1) ∧ w'.cell? ⟨p, 2, none⟩ = some (.slice a n c) ∧ w'.cell? ⟨q, 0, none⟩ = some (.int .i64 y0) ∧ w'.cell? ⟨q, 1, none⟩ = some (.int .i64 y1) ∧ w'.cell? ⟨q, 2, none⟩ = some (.slice a' n c')) (by kernel_rfl) (by kernel_rfl) (⟨Mk.drew1 _, u0, t0, v0, v1, v2, s0, s1, s2⟩) ?_
          change Wk _ _ _ _ 6 0 _
          first | (refine Wk.skip (m := 5) (k := 0) rfl (by rfl) ?_) | (refine Wk.step (m := 5) (k := 0) (v := _) rfl (by rfl) (fun wv hS => by obtain ⟨s0, s1, s2, s3, s4, s5, s6, s7, s8⟩ := hS; go_simp; try with_reducible rfl) ?_)
          try simp only [Act.put, List.getElem_toArray, List.getElem_cons_zero, List.setIfInBounds_toArray, List.set_cons_zero, List.set_cons_succ]
          refine Wk.call (m := 4) (k := 1) (v := (.int .i64 (segIdV x0 x1 zs n))) _ _ rfl (by rfl) (fun wv hS => by obtain ⟨s0, s1, s2, s3, s4, s5, s6, s7, s8⟩ := hS; go_simp; first | done | exact ⟨rfl, rfl⟩ | with_reducible rfl) (fun wv hS => ?_) ?_; · obtain ⟨s0, s1, s2, s3, s4, s5, s6, s7, s8⟩ := hS; refine (implSegID x0 x1 a n c B zs _ (h.out.mk (M.trans s0) hB (.inr (Nat.le_refl _))) (Nat.le_trans hB (M.trans s0).size) hn f0 f1 f2).mono ?_; rintro e w6 ⟨he, m6⟩; exact ⟨he, ⟨s0.trans m6, m6.cellAt s1, m6.cellAt s2, m6.cellAt s3, m6.cellAt s4, m6.cellAt s5, m6.cellAt s6, m6.cellAt s7, m6.cellAt s8⟩⟩
          try simp only [Act.put, List.getElem_toArray, List.getElem_cons_succ, List.getElem_cons_zero, List.setIfInBounds_toArray, List.set_cons_zero, List.set_cons_succ]
          first | (refine Wk.skip (m := 3) (k := 2) rfl (by rfl) ?_) | (refine Wk.step (m := 3) (k := 2) (v := _) rfl (by rfl) (fun wv hS => by obtain ⟨s0, s1, s2, s3, s4, s5, s6, s7, s8⟩ := hS; go_simp; try with_reducible rfl) ?_)
          try simp only [Act.put, List.getElem_toArray, List.getElem_cons_succ, List.getElem_cons_zero, List.setIfInBounds_toArray, List.set_cons_zero, List.set_cons_succ]
          refine Wk.call (m := 2) (k := 3) (v := (.int .i64 (segIdV y0 y1 zs' n))) _ _ rfl (by rfl) (fun wv hS => by obtain ⟨s0, s1, s2, s3, s4, s5, s6, s7, s8⟩ := hS; go_simp; first | done | exact ⟨rfl, rfl⟩ | with_reducible rfl) (fun wv hS => ?_) ?_; · obtain ⟨s0, s1, s2, s3, s4, s5, s6, s7, s8⟩ := hS; refine (implSegID y0 y1 a' n c' B' zs' _ (h'.out.mk (M.trans s0) hB' (.inr (Nat.le_refl _))) (Nat.le_trans hB' (M.trans s0).size) hn' g0 g1 g2).mono ?_; rintro e w6 ⟨he, m6⟩; exact ⟨he, ⟨s0.trans m6, m6.cellAt s1, m6.cellAt s2, m6.cellAt s3, m6.cellAt s4, m6.cellAt s5, m6.cellAt s6, m6.cellAt s7, m6.cellAt s8⟩⟩
          try simp only [Act.put, List.getElem_toArray, List.getElem_cons_succ, List.getElem_cons_zero, List.setIfInBounds_toArray, List.set_cons_zero, List.set_cons_succ]
          first | (refine Wk.skip (m := 1) (k := 4) rfl (by rfl) ?_) | (refine Wk.step (m := 1) (k := 4) (v := _) rfl (by rfl) (fun wv hS => by obtain ⟨s0, s1, s2, s3, s4, s5, s6, s7, s8⟩ := hS; go_simp; try with_reducible rfl) ?_)
          try simp only [Act.put, List.getElem_toArray, List.getElem_cons_succ, List.getElem_cons_zero, List.setIfInBounds_toArray, List.set_cons_zero, List.set_cons_succ]
          first | (refine Wk.skip (m := 0) (k := 5) rfl (by rfl) ?_) | (refine Wk.step (m := 0) (k := 5) (v := _) rfl (by rfl) (fun wv hS => by obtain ⟨s0, s1, s2, s3, s4, s5, s6, s7, s8⟩ := hS; go_simp; try with_reducible rfl) ?_)
          try simp only [Act.put, List.getElem_toArray, List.getElem_cons_succ, List.getElem_cons_zero, List.setIfInBounds_toArray, List.set_cons_zero, List.set_cons_succ]
          refine Wk.done fun wE hE => ?_
          clear u0 t0 v0 v1 v2 s0 s1 s2
          obtain ⟨mE, u0, t0, v0, v1, v2, s0, s1, s2⟩ := hE
          skip
          have hue : (segIdV x0 x1 zs n) = (segIdV y0 y1 zs' n) := by simpa using hu.out
          have HR := Lib.hid (show prefB i x0 n (segIdV x0 x1 zs n) j y0 n (segIdV y0 y1 zs' n) = decide (i < j) by unfold prefB; rw [if_pos rfl, if_pos hxe.out, if_pos hue])
          clear hue
          have huo := hu.out
          go_wp2_with fail
          go_ret
          exact ⟨retB HR.out.symm, M.trans mE⟩
        · have hu := Lib.hid hu0
          clear hu0
          skip
          refine wp_region_wk (fun w' => Mk0 wr w' ∧ w'.cell? ⟨w.heap.size, 0, none⟩ = some (.int .i64 i) ∧ w'.cell? ⟨w.heap.size + 1, 0, none⟩ = some (.int .i64 j) ∧ w'.cell? ⟨p, 0, none⟩ = some (.int .i64 x0) ∧ w'.cell? ⟨p, 1, none⟩ = some (.int .i64 x1) ∧ w'.cell? ⟨p, 2, none⟩ = some (.slice a n c) ∧ w'.cell? ⟨q, 0, none⟩ = some (.int .i64 y0) ∧ w'.cell? ⟨q, 1, none⟩ = some (.int .i64 y1) ∧ w'.cell? ⟨q, 2, none⟩ = some (.slice a' n c')) (by kernel_rfl) (by kernel_rfl) (⟨Mk.drew1 _, u0, t0, v0, v1, v2, s0, s1, s2⟩) ?_
          change Wk _ _ _ _ 6 0 _
          first | (refine Wk.skip (m := 5) (k := 0) rfl (by rfl) ?_) | (refine Wk.step (m := 5) (k := 0) (v := _) rfl (by rfl) (fun wv hS => by obtain ⟨s0, s1, s2, s3, s4, s5, s6, s7, s8⟩ := hS; go_simp; try with_reducible rfl) ?_)
          try simp only [Act.put, List.getElem_toArray, List.getElem_cons_zero, List.setIfInBounds_toArray, List.set_cons_zero, List.set_cons_succ]
          refine Wk.call (m := 4) (k := 1) (v := (.int .i64 (segIdV x0 x1 zs n))) _ _ rfl (by rfl) (fun wv hS => by obtain ⟨s0, s1, s2, s3, s4, s5, s6, s7, s8⟩ := hS; go_simp; first | done | exact ⟨rfl, rfl⟩ | with_reducible rfl) (fun wv hS => ?_) ?_; · obtain ⟨s0, s1, s2, s3, s4, s5, s6, s7, s8⟩ := hS; refine (implSegID x0 x1 a n c B zs _ (h.out.mk (M.trans s0) hB (.inr (Nat.le_refl _))) (Nat.le_trans hB (M.trans s0).size) hn f0 f1 f2).mono ?_; rintro e w6 ⟨he, m6⟩; exact ⟨he, ⟨s0.trans m6, m6.cellAt s1, m6.cellAt s2, m6.cellAt s3, m6.cellAt s4, m6.cellAt s5, m6.cellAt s6, m6.cellAt s7, m6.cellAt s8⟩⟩
          try simp only [Act.put, List.getElem_toArray, List.getElem_cons_succ, List.getElem_cons_zero, List.setIfInBounds_toArray, List.set_cons_zero, List.set_cons_succ]
          first | (refine Wk.skip (m := 3) (k := 2) rfl (by rfl) ?_) | (refine Wk.step (m := 3) (k := 2) (v := _) rfl (by rfl) (fun wv hS => by obtain ⟨s0, s1, s2, s3, s4, s5, s6, s7, s8⟩ := hS; go_simp; try with_reducible rfl) ?_)
          try simp only [Act.put, List.getElem_toArray, List.getElem_cons_succ, List.getElem_cons_zero, List.setIfInBounds_toArray, List.set_cons_zero, List.set_cons_succ]
          refine Wk.call (m := 2) (k := 3) (v := (.int .i64 (segIdV y0 y1 zs' n))) _ _ rfl (by rfl) (fun wv hS => by obtain ⟨s0, s1, s2, s3, s4, s5, s6, s7, s8⟩ := hS; go_simp; first | done | exact ⟨rfl, rfl⟩ | with_reducible rfl) (fun wv hS => ?_) ?_; · obtain ⟨s0, s1, s2, s3, s4, s5, s6, s7, s8⟩ := hS; refine (implSegID y0 y1 a' n c' B' zs' _ (h'.out.mk (M.trans s0) hB' (.inr (Nat.le_refl _))) (Nat.le_trans hB' (M.trans s0).size) hn' g0 g1 g2).mono ?_; rintro e w6 ⟨he, m6⟩; exact ⟨he, ⟨s0.trans m6, m6.cellAt s1, m6.cellAt s2, m6.cellAt s3, m6.cellAt s4, m6.cellAt s5, m6.cellAt s6, m6.cellAt s7, m6.cellAt s8⟩⟩
          try simp only [Act.put, List.getElem_toArray, List.getElem_cons_succ, List.getElem_cons_zero, List.setIfInBounds_toArray, List.set_cons_zero, List.set_cons_succ]
          first | (refine Wk.skip (m := 1) (k := 4) rfl (by rfl) ?_) | (refine Wk.step (m := 1) (k := 4) (v := _) rfl (by rfl) (fun wv hS => by obtain ⟨s0, s1, s2, s3, s4, s5, s6, s7, s8⟩ := hS; go_simp; try with_reducible rfl) ?_)
          try simp only [Act.put, List.getElem_toArray, List.getElem_cons_succ, List.getElem_cons_zero, List.setIfInBounds_toArray, List.set_cons_zero, List.set_cons_succ]
          first | (refine Wk.skip (m := 0) (k := 5) rfl (by rfl) ?_) | (refine Wk.step (m := 0) (k := 5) (v := _) rfl (by rfl) (fun wv hS => by obtain ⟨s0, s1, s2, s3, s4, s5, s6, s7, s8⟩ := hS; go_simp; try with_reducible rfl) ?_)
          try simp only [Act.put, List.getElem_toArray, List.getElem_cons_succ, List.getElem_cons_zero, List.setIfInBounds_toArray, List.set_cons_zero, List.set_cons_succ]
          refine Wk.done fun wE hE => ?_
          clear u0 t0 v0 v1 v2 s0 s1 s2
          obtain ⟨mE, u0, t0, v0, v1, v2, s0, s1, s2⟩ := hE
          skip
          have hue : ¬ (segIdV x0 x1 zs n) = (segIdV y0 y1 zs' n) := by simpa using hu.out
          have HR := Lib.hid (show prefB i x0 n (segIdV x0 x1 zs n) j y0 n (segIdV y0 y1 zs' n) = decide ((segIdV x0 x1 zs n) < (segIdV y0 y1 zs' n)) by unfold prefB; rw [if_pos rfl, if_pos hxe.out, if_neg hue])
          clear hue
          have huo := hu.out
          go_wp2_with fail
          go_ret
          exact ⟨retB HR.out.symm, M.trans mE⟩
      · have hxe : ¬ x0 = y0 := by simpa using hx
        have HR := Lib.hid (show prefB i x0 n (segIdV x0 x1 zs n) j y0 n (segIdV y0 y1 zs' n) = decide (y0 < x0) by unfold prefB; rw [if_pos rfl, if_neg hxe])
        clear hxe
        go_wp2_with fail
        go_ret
        exact ⟨retB HR.out.symm, M⟩
    · have hz1 : (((n : Int)) != ((n' : Int))) = true := by simp; omega
      have HR := Lib.hid (show prefB i x0 n (segIdV x0 x1 zs n) j y0 n' (segIdV y0 y1 zs' n') = decide (n < n') by unfold prefB; rw [if_neg hz]; simp)
      go_wp2_with fail
      go_ret
      exact ⟨retB HR.out.symm, M⟩
  · have mq := ((Mk.alloc wq (Obj.cells #[Value.int .i64 y0, Value.int .i64 y1, Value.slice a' n' c'] 31)).new (Obj.cells #[Value.int .i64 x0, Value.int .i64 x1, Value.slice a n c] 31)).trans (Mk.drew1 _)
    have v0 : ((wq.alloc (Obj.cells #[Value.int .i64 y0, Value.int .i64 y1, Value.slice a' n' c'] 31)).alloc (Obj.cells #[Value.int .i64 x0, Value.int .i64 x1, Value.slice a n c] 31)).drew.cell? ⟨wq.heap.size + 1, 0, none⟩ = some (.int .i64 x0) := by simp [go_sem]
    have v1 : ((wq.alloc (Obj.cells #[Value.int .i64 y0, Value.int .i64 y1, Value.slice a' n' c'] 31)).alloc (Obj.cells #[Value.int .i64 x0, Value.int .i64 x1, Value.slice a n c] 31)).drew.cell? ⟨wq.heap.size + 1, 1, none⟩ = some (.int .i64 x1) := by simp [go_sem]
    have v2 : ((wq.alloc (Obj.cells #[Value.int .i64 y0, Value.int .i64 y1, Value.slice a' n' c'] 31)).alloc (Obj.cells #[Value.int .i64 x0, Value.int .i64 x1, Value.slice a n c] 31)).drew.cell? ⟨wq.heap.size + 1, 2, none⟩ = some (.slice a n c) := by simp [go_sem]
    have s0 : ((wq.alloc (Obj.cells #[Value.int .i64 y0, Value.int .i64 y1, Value.slice a' n' c'] 31)).alloc (Obj.cells #[Value.int .i64 x0, Value.int .i64 x1, Value.slice a n c] 31)).drew.cell? ⟨wq.heap.size, 0, none⟩ = some (.int .i64 y0) := by simp [go_sem]
    have s1 : ((wq.alloc (Obj.cells #[Value.int .i64 y0, Value.int .i64 y1, Value.slice a' n' c'] 31)).alloc (Obj.cells #[Value.int .i64 x0, Value.int .i64 x1, Value.slice a n c] 31)).drew.cell? ⟨wq.heap.size, 1, none⟩ = some (.int .i64 y1) := by simp [go_sem]
    have s2 : ((wq.alloc (Obj.cells #[Value.int .i64 y0, Value.int .i64 y1, Value.slice a' n' c'] 31)).alloc (Obj.cells #[Value.int .i64 x0, Value.int .i64 x1, Value.slice a n c] 31)).drew.cell? ⟨wq.heap.size, 2, none⟩ = some (.slice a' n' c') := by simp [go_sem]
    replace u0 := mq.cellAt u0
    replace t0 := mq.cellAt t0
    have M := M0.out.trans mq
    clear u1 u2 u3 t1 t2 t3 mq sz0 sz1
    obtain ⟨p, hp⟩ : ∃ p, wq.heap.size + 1 = p := ⟨_, rfl⟩
    obtain ⟨q, hq⟩ : ∃ q, wq.heap.size = q := ⟨_, rfl⟩
    rw [hp] at v0 v1 v2
    rw [hq] at s0 s1 s2
    generalize ((wq.alloc (Obj.cells #[Value.int .i64 y0, Value.int .i64 y1, Value.slice a' n' c'] 31)).alloc (Obj.cells #[Value.int .i64 x0, Value.int .i64 x1, Value.slice a n c] 31)).drew = wr at *
    simp only [hp]
    simp only [hq]
    clear hp hq
    by_cases hz : n = n'
    · have hzz := hz
      subst hzz
      have hz1 : (((n : Int)) != ((n : Int))) = false := by simp
      cases hx : (x0 != y0)
      · have hxe := Lib.hid (show x0 = y0 by simpa using hx)
        go_wp2_with fail
        cases hu0 : ((segIdV x0 x1 zs n) != (segIdV y0 y1 zs' n))
        · have hu := Lib.hid hu0
          clear hu0
          skip
          refine wp_region_wk (fun w' => Mk0 wr w' ∧ w'.cell? ⟨w.heap.size, 0, none⟩ = some (.int .i64 i) ∧ w'.cell? ⟨w.heap.size + 1, 0, none⟩ = some (.int .i64 j) ∧ w'.cell? ⟨p, 0, none⟩ = some (.int .i64 x0) ∧ w'.cell? ⟨p, 1, none⟩ = some (.int .i64 x1) ∧ w'.cell? ⟨p, 2, none⟩ = some (.slice a n c) ∧ w'.cell? ⟨q, 0, none⟩ = some (.int .i64 y0) ∧ w'.cell? ⟨q, 1, none⟩ = some (.int .i64 y1) ∧ w'.cell? ⟨q, 2, none⟩ = some (.slice a' n c')) (by kernel_rfl) (by kernel_rfl) (⟨Mk.drew1 _, u0, t0, v0, v1, v2, s0, s1, s2⟩) ?_
          change Wk _ _ _ _ 6 0 _
          first | (refine Wk.skip (m := 5) (k := 0) rfl (by rfl) ?_) | (refine Wk.step (m := 5) (k := 0) (v := _) rfl (by rfl) (fun wv hS => by obtain ⟨s0, s1, s2, s3, s4, s5, s6, s7, s8⟩ := hS; go_simp; try with_reducible rfl) ?_)
          try simp only [Act.put, List.getElem_toArray, List.getElem_cons_zero, List.setIfInBounds_toArray, List.set_cons_zero, List.set_cons_succ]
          refine Wk.call (m := 4) (k := 1) (v := (.int .i64 (segIdV x0 x1 zs n))) _ _ rfl (by rfl) (fun wv hS => by obtain ⟨s0, s1, s2, s3, s4, s5, s6, s7, s8⟩ := hS; go_simp; first | done | exact ⟨rfl, rfl⟩ | with_reducible rfl) (fun wv hS => ?_) ?_; · obtain ⟨s0, s1, s2, s3, s4, s5, s6, s7, s8⟩ := hS; refine (implSegID x0 x1 a n c B zs _ (h.out.mk (M.trans s0) hB (.inr (Nat.le_refl _))) (Nat.le_trans hB (M.trans s0).size) hn f0 f1 f2).mono ?_; rintro e w6 ⟨he, m6⟩; exact ⟨he, ⟨s0.trans m6, m6.cellAt s1, m6.cellAt s2, m6.cellAt s3, m6.cellAt s4, m6.cellAt s5, m6.cellAt s6, m6.cellAt s7, m6.cellAt s8⟩⟩
          try simp only [Act.put, List.getElem_toArray, List.getElem_cons_succ, List.getElem_cons_zero, List.setIfInBounds_toArray, List.set_cons_zero, List.set_cons_succ]
          first | (refine Wk.skip (m := 3) (k := 2) rfl (by rfl) ?_) | (refine Wk.step (m := 3) (k := 2) (v := _) rfl (by rfl) (fun wv hS => by obtain ⟨s0, s1, s2, s3, s4, s5, s6, s7, s8⟩ := hS; go_simp; try with_reducible rfl) ?_)
          try simp only [Act.put, List.getElem_toArray, List.getElem_cons_succ, List.getElem_cons_zero, List.setIfInBounds_toArray, List.set_cons_zero, List.set_cons_succ]
          refine Wk.call (m := 2) (k := 3) (v := (.int .i64 (segIdV y0 y1 zs' n))) _ _ rfl (by rfl) (fun wv hS => by obtain ⟨s0, s1, s2, s3, s4, s5, s6, s7, s8⟩ := hS; go_simp; first | done | exact ⟨rfl, rfl⟩ | with_reducible rfl) (fun wv hS => ?_) ?_; · obtain ⟨s0, s1, s2, s3, s4, s5, s6, s7, s8⟩ := hS; refine (implSegID y0 y1 a' n c' B' zs' _ (h'.out.mk (M.trans s0) hB' (.inr (Nat.le_refl _))) (Nat.le_trans hB' (M.trans s0).size) hn' g0 g1 g2).mono ?_; rintro e w6 ⟨he, m6⟩; exact ⟨he, ⟨s0.trans m6, m6.cellAt s1, m6.cellAt s2, m6.cellAt s3, m6.cellAt s4, m6.cellAt s5, m6.cellAt s6, m6.cellAt s7, m6.cellAt s8⟩⟩
          try simp only [Act.put, List.getElem_toArray, List.getElem_cons_succ, List.getElem_cons_zero, List.setIfInBounds_toArray, List.set_cons_zero, List.set_cons_succ]
          first | (refine Wk.skip (m := 1) (k := 4) rfl (by rfl) ?_) | (refine Wk.step (m := 1) (k := 4) (v := _) rfl (by rfl) (fun wv hS => by obtain ⟨s0, s1, s2, s3, s4, s5, s6, s7, s8⟩ := hS; go_simp; try with_reducible rfl) ?_)
          try simp only [Act.put, List.getElem_toArray, List.getElem_cons_succ, List.getElem_cons_zero, List.setIfInBounds_toArray, List.set_cons_zero, List.set_cons_succ]
          first | (refine Wk.skip (m := 0) (k := 5) rfl (by rfl) ?_) | (refine Wk.step (m := 0) (k := 5) (v := _) rfl (by rfl) (fun wv hS => by obtain ⟨s0, s1, s2, s3, s4, s5, s6, s7, s8⟩ := hS; go_simp; try with_reducible rfl) ?_)
          try simp only [Act.put, List.getElem_toArray, List.getElem_cons_succ, List.getElem_cons_zero, List.setIfInBounds_toArray, List.set_cons_zero, List.set_cons_succ]
          refine Wk.done fun wE hE => ?_
          clear u0 t0 v0 v1 v2 s0 s1 s2
          obtain ⟨mE, u0, t0, v0, v1, v2, s0, s1, s2⟩ := hE
          skip
          have hue : (segIdV x0 x1 zs n) = (segIdV y0 y1 zs' n) := by simpa using hu.out
          have HR := Lib.hid (show prefB i x0 n (segIdV x0 x1 zs n) j y0 n (segIdV y0 y1 zs' n) = decide (i < j) by unfold prefB; rw [if_pos rfl, if_pos hxe.out, if_pos hue])
          clear hue
          have huo := hu.out
          go_wp2_with fail
          go_ret
          exact ⟨retB HR.out.symm, M.trans mE⟩
        · have hu := Lib.hid hu0
          clear hu0
          skip
          refine wp_region_wk (fun w' => Mk0 wr w' ∧ w'.cell? ⟨w.heap.size, 0, none⟩ = some (.int .i64 i) ∧ w'.cell? ⟨w.heap.size + 1, 0, none⟩ = some (.int .i64 j) ∧ w'.cell? ⟨p, 0, none⟩ = some (.int .i64 x0) ∧ w'.cell? ⟨p, 1, none⟩ = some (.int .i64 x1) ∧ w'.cell? ⟨p, 2, none⟩ = some (.slice a n c) ∧ w'.cell? ⟨q, 0, none⟩ = some (.int .i64 y0) ∧ w'.cell? ⟨q, 1, none⟩ = some (.int .i64 y1) ∧ w'.cell? ⟨q, 2, none⟩ = some (.slice a' n c')) (by kernel_rfl) (by kernel_rfl) (⟨Mk.drew1 _, u0, t0, v0, v1, v2, s0, s1, s2⟩) ?_
          change Wk _ _ _ _ 6 0 _
          first | (refine Wk.skip (m := 5) (k := 0) rfl (by rfl) ?_) | (refine Wk.step (m := 5) (k := 0) (v := _) rfl (by rfl) (fun wv hS => by obtain ⟨s0, s1, s2, s3, s4, s5, s6, s7, s8⟩ := hS; go_simp; try with_reducible rfl) ?_)
          try simp only [Act.put, List.getElem_toArray, List.getElem_cons_zero, List.setIfInBounds_toArray, List.set_cons_zero, List.set_cons_succ]
          refine Wk.call (m := 4) (k := 1) (v := (.int .i64 (segIdV x0 x1 zs n))) _ _ rfl (by rfl) (fun wv hS => by obtain ⟨s0, s1, s2, s3, s4, s5, s6, s7, s8⟩ := hS; go_simp; first | done | exact ⟨rfl, rfl⟩ | with_reducible rfl) (fun wv hS => ?_) ?_; · obtain ⟨s0, s1, s2, s3, s4, s5, s6, s7, s8⟩ := hS; refine (implSegID x0 x1 a n c B zs _ (h.out.mk (M.trans s0) hB (.inr (Nat.le_refl _))) (Nat.le_trans hB (M.trans s0).size) hn f0 f1 f2).mono ?_; rintro e w6 ⟨he, m6⟩; exact ⟨he, ⟨s0.trans m6, m6.cellAt s1, m6.cellAt s2, m6.cellAt s3, m6.cellAt s4, m6.cellAt s5, m6.cellAt s6, m6.cellAt s7, m6.cellAt s8⟩⟩
          try simp only [Act.put, List.getElem_toArray, List.getElem_cons_succ, List.getElem_cons_zero, List.setIfInBounds_toArray, List.set_cons_zero, List.set_cons_succ]
          first | (refine Wk.skip (m := 3) (k := 2) rfl (by rfl) ?_) | (refine Wk.step (m := 3) (k := 2) (v := _) rfl (by rfl) (fun wv hS => by obtain ⟨s0, s1, s2, s3, s4, s5, s6, s7, s8⟩ := hS; go_simp; try with_reducible rfl) ?_)
          try simp only [Act.put, List.getElem_toArray, List.getElem_cons_succ, List.getElem_cons_zero, List.setIfInBounds_toArray, List.set_cons_zero, List.set_cons_succ]
          refine Wk.call (m := 2) (k := 3) (v := (.int .i64 (segIdV y0 y1 zs' n))) _ _ rfl (by rfl) (fun wv hS => by obtain ⟨s0, s1, s2, s3, s4, s5, s6, s7, s8⟩ := hS; go_simp; first | done | exact ⟨rfl, rfl⟩ | with_reducible rfl) (fun wv hS => ?_) ?_; · obtain ⟨s0, s1, s2, s3, s4, s5, s6, s7, s8⟩ := hS; refine (implSegID y0 y1 a' n c' B' zs' _ (h'.out.mk (M.trans s0) hB' (.inr (Nat.le_refl _))) (Nat.le_trans hB' (M.trans s0).size) hn' g0 g1 g2).mono ?_; rintro e w6 ⟨he, m6⟩; exact ⟨he, ⟨s0.trans m6, m6.cellAt s1, m6.cellAt s2, m6.cellAt s3, m6.cellAt s4, m6.cellAt s5, m6.cellAt s6, m6.cellAt s7, m6.cellAt s8⟩⟩
          try simp only [Act.put, List.getElem_toArray, List.getElem_cons_succ, List.getElem_cons_zero, List.setIfInBounds_toArray, List.set_cons_zero, List.set_cons_succ]
          first | (refine Wk.skip (m := 1) (k := 4) rfl (by rfl) ?_) | (refine Wk.step (m := 1) (k := 4) (v := _) rfl (by rfl) (fun wv hS => by obtain ⟨s0, s1, s2, s3, s4, s5, s6, s7, s8⟩ := hS; go_simp; try with_reducible rfl) ?_)
          try simp only [Act.put, List.getElem_toArray, List.getElem_cons_succ, List.getElem_cons_zero, List.setIfInBounds_toArray, List.set_cons_zero, List.set_cons_succ]
          first | (refine Wk.skip (m := 0) (k := 5) rfl (by rfl) ?_) | (refine Wk.step (m := 0) (k := 5) (v := _) rfl (by rfl) (fun wv hS => by obtain ⟨s0, s1, s2, s3, s4, s5, s6, s7, s8⟩ := hS; go_simp; try with_reducible rfl) ?_)
          try simp only [Act.put, List.getElem_toArray, List.getElem_cons_succ, List.getElem_cons_zero, List.setIfInBounds_toArray, List.set_cons_zero, List.set_cons_succ]
          refine Wk.done fun wE hE => ?_
          clear u0 t0 v0 v1 v2 s0 s1 s2
          obtain ⟨mE, u0, t0, v0, v1, v2, s0, s1, s2⟩ := hE
          skip
          have hue : ¬ (segIdV x0 x1 zs n) = (segIdV y0 y1 zs' n) := by simpa using hu.out
          have HR := Lib.hid (show prefB i x0 n (segIdV x0 x1 zs n) j y0 n (segIdV y0 y1 zs' n) = decide ((segIdV x0 x1 zs n) < (segIdV y0 y1 zs' n)) by unfold prefB; rw [if_pos rfl, if_pos hxe.out, if_neg hue])
          clear hue
          have huo := hu.out
          go_wp2_with fail
          go_ret
          exact ⟨retB HR.out.symm, M.trans mE⟩
      · have hxe : ¬ x0 = y0 := by simpa using hx
        have HR := Lib.hid (show prefB i x0 n (segIdV x0 x1 zs n) j y0 n (segIdV y0 y1 zs' n) = decide (y0 < x0) by unfold prefB; rw [if_pos rfl, if_neg hxe])
        clear hxe
        go_wp2_with fail
        go_ret
        exact ⟨retB HR.out.symm, M⟩
    · have hz1 : (((n : Int)) != ((n' : Int))) = true := by simp; omega
      have HR := Lib.hid (show prefB i x0 n (segIdV x0 x1 zs n) j y0 n' (segIdV y0 y1 zs' n') = decide (n < n') by unfold prefB; rw [if_neg hz]; simp)
      go_wp2_with fail
      go_ret
      exact ⟨retB HR.out.symm, M⟩

end Go.Proofs.Ytpfjjfbheliinaa
