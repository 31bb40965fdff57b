
/- MakePart of the model. -/
import Derived.Test.YtbkbkpnpllemfaaMkPI
namespace Go.Proofs.Ytbkbkpnpllemfaa
open Go.ChangeShapes Go.WideShapes Go.ChangeAt Go.RowKit
set_option linter.unusedVariables false
theorem mpRow_le (zs : List THop) (n : Nat) (kd f : Int) (h : zs.length = n) : (mpRow zs n kd f).length ≤ n := by
  unfold mpRow
  split
  · split
    · unfold turnP; rw [List.length_take, turnL_len]; omega
    · rw [List.length_drop, h]; omega
  · simp
set_option maxRecDepth 100000 in
set_option maxHeartbeats 16000000 in
theorem specMkP (x0 x1 : Int) (a : Option Addr) (n c B : Nat) (zs : List THop) (kd f : Int) (w : World) (h : HasHop w B a n zs) (hB : B ≤ w.heap.size) (hn : n ≤ 1048576) (hc0 : a = none → c = 0) (hnc : n ≤ c) :
    Calls Try.prog 16 #[.agg #[.int .i64 x0, .int .i64 x1, .slice a n c], .int .i64 kd, .int .i64 f] w (OutCPathPart (cnd (mpB n kd f) kd) (cnd (mpB n kd f) x0) (cnd (mpB n kd f) (mpBeta x1 zs n kd f)) (mpRow zs n kd f) w) := by
  have M0 : Mk0 w ((w.alloc (Obj.cells #[Value.int .i64 x0, Value.int .i64 x1, Value.slice a n c] 28)).alloc (Obj.cells #[Value.int .i64 0, Value.int .i64 0, Value.int .i64 0, Value.slice none 0 0] 35)) := ((Mk.alloc w (Obj.cells #[Value.int .i64 x0, Value.int .i64 x1, Value.slice a n c] 28)).new (Obj.cells #[Value.int .i64 0, Value.int .i64 0, Value.int .i64 0, Value.slice none 0 0] 35))
  have k0 : ((w.alloc (Obj.cells #[Value.int .i64 x0, Value.int .i64 x1, Value.slice a n c] 28)).alloc (Obj.cells #[Value.int .i64 0, Value.int .i64 0, Value.int .i64 0, Value.slice none 0 0] 35)).cell? ⟨w.heap.size, 0, none⟩ = some (.int .i64 x0) := by simp [go_sem]
  have k1 : ((w.alloc (Obj.cells #[Value.int .i64 x0, Value.int .i64 x1, Value.slice a n c] 28)).alloc (Obj.cells #[Value.int .i64 0, Value.int .i64 0, Value.int .i64 0, Value.slice none 0 0] 35)).cell? ⟨w.heap.size, 1, none⟩ = some (.int .i64 x1) := by simp [go_sem]
  have k2 : ((w.alloc (Obj.cells #[Value.int .i64 x0, Value.int .i64 x1, Value.slice a n c] 28)).alloc (Obj.cells #[Value.int .i64 0, Value.int .i64 0, Value.int .i64 0, Value.slice none 0 0] 35)).cell? ⟨w.heap.size, 2, none⟩ = some (.slice a n c) := by simp [go_sem]
  have r0 : ((w.alloc (Obj.cells #[Value.int .i64 x0, Value.int .i64 x1, Value.slice a n c] 28)).alloc (Obj.cells #[Value.int .i64 0, Value.int .i64 0, Value.int .i64 0, Value.slice none 0 0] 35)).cell? ⟨w.heap.size + 1, 0, none⟩ = some (.int .i64 0) := by simp [go_sem]
  have r1 : ((w.alloc (Obj.cells #[Value.int .i64 x0, Value.int .i64 x1, Value.slice a n c] 28)).alloc (Obj.cells #[Value.int .i64 0, Value.int .i64 0, Value.int .i64 0, Value.slice none 0 0] 35)).cell? ⟨w.heap.size + 1, 1, none⟩ = some (.int .i64 0) := by simp [go_sem]
  have r2 : ((w.alloc (Obj.cells #[Value.int .i64 x0, Value.int .i64 x1, Value.slice a n c] 28)).alloc (Obj.cells #[Value.int .i64 0, Value.int .i64 0, Value.int .i64 0, Value.slice none 0 0] 35)).cell? ⟨w.heap.size + 1, 2, none⟩ = some (.int .i64 0) := by simp [go_sem]
  have r3 : ((w.alloc (Obj.cells #[Value.int .i64 x0, Value.int .i64 x1, Value.slice a n c] 28)).alloc (Obj.cells #[Value.int .i64 0, Value.int .i64 0, Value.int .i64 0, Value.slice none 0 0] 35)).cell? ⟨w.heap.size + 1, 3, none⟩ = some (.slice none 0 0) := by simp [go_sem]
  have hs0 : ((w.alloc (Obj.cells #[Value.int .i64 x0, Value.int .i64 x1, Value.slice a n c] 28)).alloc (Obj.cells #[Value.int .i64 0, Value.int .i64 0, Value.int .i64 0, Value.slice none 0 0] 35)).heap.size = w.heap.size + 1 + 1 := by simp only [World.size_alloc]
  have fR : ∀ q, ((w.alloc (Obj.cells #[Value.int .i64 x0, Value.int .i64 x1, Value.slice a n c] 28)).alloc (Obj.cells #[Value.int .i64 0, Value.int .i64 0, Value.int .i64 0, Value.slice none 0 0] 35)).frozen? ⟨w.heap.size + 1, q, none⟩ = false := fun q => by simp [go_sem]
  obtain ⟨i0, hi0, hz0, hz1, hz2⟩ := info_parts infoRHop
  go_enter Try.func16, Try.ntmps16
  go_wp2_with fail
  generalize ((w.alloc (Obj.cells #[Value.int .i64 x0, Value.int .i64 x1, Value.slice a n c] 28)).alloc (Obj.cells #[Value.int .i64 0, Value.int .i64 0, Value.int .i64 0, Value.slice none 0 0] 35)) = wb at *
  refine (specIn f 0 _ _).mono ?_
  rintro e w2 ⟨he, rfl⟩
  have M := M0
  cases q1 : inB f 0 ((n : Int) - 1)
  · rw [q1] at he
    subst he
    have HP := Lib.hid (show mpB n kd f = false by unfold mpB; rw [q1]; first | done | rfl | simp)
    go_wp2_with fail
    replace r0 := World.cell?_setCell_same _ _ (.int .i64 0) r0
    replace r1 := cell_set r1 ⟨w.heap.size + 1, 0, none⟩ (.int .i64 0) (.inr (by simp))
    replace r2 := cell_set r2 ⟨w.heap.size + 1, 0, none⟩ (.int .i64 0) (.inr (by simp))
    replace r3 := cell_set r3 ⟨w.heap.size + 1, 0, none⟩ (.int .i64 0) (.inr (by simp))
    replace M := M.put ⟨w.heap.size + 1, 0, none⟩ (.int .i64 0) (show w.heap.size ≤ w.heap.size + 1 from by omega)
    replace r0 := cell_set r0 ⟨w.heap.size + 1, 1, none⟩ (.int .i64 0) (.inr (by simp))
    replace r1 := World.cell?_setCell_same _ _ (.int .i64 0) r1
    replace r2 := cell_set r2 ⟨w.heap.size + 1, 1, none⟩ (.int .i64 0) (.inr (by simp))
    replace r3 := cell_set r3 ⟨w.heap.size + 1, 1, none⟩ (.int .i64 0) (.inr (by simp))
    replace M := M.put ⟨w.heap.size + 1, 1, none⟩ (.int .i64 0) (show w.heap.size ≤ w.heap.size + 1 from by omega)
    replace r0 := cell_set r0 ⟨w.heap.size + 1, 2, none⟩ (.int .i64 0) (.inr (by simp))
    replace r1 := cell_set r1 ⟨w.heap.size + 1, 2, none⟩ (.int .i64 0) (.inr (by simp))
    replace r2 := World.cell?_setCell_same _ _ (.int .i64 0) r2
    replace r3 := cell_set r3 ⟨w.heap.size + 1, 2, none⟩ (.int .i64 0) (.inr (by simp))
    replace M := M.put ⟨w.heap.size + 1, 2, none⟩ (.int .i64 0) (show w.heap.size ≤ w.heap.size + 1 from by omega)
    replace r0 := cell_set r0 ⟨w.heap.size + 1, 3, none⟩ (.slice none 0 0) (.inr (by simp))
    replace r1 := cell_set r1 ⟨w.heap.size + 1, 3, none⟩ (.slice none 0 0) (.inr (by simp))
    replace r2 := cell_set r2 ⟨w.heap.size + 1, 3, none⟩ (.slice none 0 0) (.inr (by simp))
    replace r3 := World.cell?_setCell_same _ _ (.slice none 0 0) r3
    replace M := M.put ⟨w.heap.size + 1, 3, none⟩ (.slice none 0 0) (show w.heap.size ≤ w.heap.size + 1 from by omega)
    have zF : ((((wb.setCell ⟨w.heap.size + 1, 0, none⟩ (.int .i64 0)).setCell ⟨w.heap.size + 1, 1, none⟩ (.int .i64 0)).setCell ⟨w.heap.size + 1, 2, none⟩ (.int .i64 0)).setCell ⟨w.heap.size + 1, 3, none⟩ (.slice none 0 0)).heap.size = wb.heap.size := by simp only [World.size_set]
    generalize ((((wb.setCell ⟨w.heap.size + 1, 0, none⟩ (.int .i64 0)).setCell ⟨w.heap.size + 1, 1, none⟩ (.int .i64 0)).setCell ⟨w.heap.size + 1, 2, none⟩ (.int .i64 0)).setCell ⟨w.heap.size + 1, 3, none⟩ (.slice none 0 0)) = WF at *
    refine bodyPost_ret (v := .agg #[.int .i64 0, .int .i64 0, .int .i64 0, .slice none 0 0]) (by simp [results, Try.results16, go_sem, r0, r1, r2, r3]) rfl ?_
    have hRW : mpRow zs n kd f = [] := by unfold mpRow; rw [HP.out]; rfl
    rw [hRW, HP.out]
    exact ⟨none, 0, 0, rfl, ⟨fun _ => rfl, Nat.le_refl _, by decide⟩, OwnR.none_ _ _ _ _, M⟩
  · rw [q1] at he
    subst he
    have Q1 := Lib.hid q1
    clear q1
    go_wp2_with fail
    refine (specIn kd 1 4 _).mono ?_
    rintro e w3 ⟨he, rfl⟩
    cases q2 : inB kd 1 4
    · rw [q2] at he
      subst he
      have HP := Lib.hid (show mpB n kd f = false by unfold mpB; rw [Q1.out, q2]; first | done | rfl | simp)
      go_wp2_with fail
      replace r0 := World.cell?_setCell_same _ _ (.int .i64 0) r0
      replace r1 := cell_set r1 ⟨w.heap.size + 1, 0, none⟩ (.int .i64 0) (.inr (by simp))
      replace r2 := cell_set r2 ⟨w.heap.size + 1, 0, none⟩ (.int .i64 0) (.inr (by simp))
      replace r3 := cell_set r3 ⟨w.heap.size + 1, 0, none⟩ (.int .i64 0) (.inr (by simp))
      replace M := M.put ⟨w.heap.size + 1, 0, none⟩ (.int .i64 0) (show w.heap.size ≤ w.heap.size + 1 from by omega)
      replace r0 := cell_set r0 ⟨w.heap.size + 1, 1, none⟩ (.int .i64 0) (.inr (by simp))
      replace r1 := World.cell?_setCell_same _ _ (.int .i64 0) r1
      replace r2 := cell_set r2 ⟨w.heap.size + 1, 1, none⟩ (.int .i64 0) (.inr (by simp))
      replace r3 := cell_set r3 ⟨w.heap.size + 1, 1, none⟩ (.int .i64 0) (.inr (by simp))
      replace M := M.put ⟨w.heap.size + 1, 1, none⟩ (.int .i64 0) (show w.heap.size ≤ w.heap.size + 1 from by omega)
      replace r0 := cell_set r0 ⟨w.heap.size + 1, 2, none⟩ (.int .i64 0) (.inr (by simp))
      replace r1 := cell_set r1 ⟨w.heap.size + 1, 2, none⟩ (.int .i64 0) (.inr (by simp))
      replace r2 := World.cell?_setCell_same _ _ (.int .i64 0) r2
      replace r3 := cell_set r3 ⟨w.heap.size + 1, 2, none⟩ (.int .i64 0) (.inr (by simp))
      replace M := M.put ⟨w.heap.size + 1, 2, none⟩ (.int .i64 0) (show w.heap.size ≤ w.heap.size + 1 from by omega)
      replace r0 := cell_set r0 ⟨w.heap.size + 1, 3, none⟩ (.slice none 0 0) (.inr (by simp))
      replace r1 := cell_set r1 ⟨w.heap.size + 1, 3, none⟩ (.slice none 0 0) (.inr (by simp))
      replace r2 := cell_set r2 ⟨w.heap.size + 1, 3, none⟩ (.slice none 0 0) (.inr (by simp))
      replace r3 := World.cell?_setCell_same _ _ (.slice none 0 0) r3
      replace M := M.put ⟨w.heap.size + 1, 3, none⟩ (.slice none 0 0) (show w.heap.size ≤ w.heap.size + 1 from by omega)
      have zF : ((((wb.setCell ⟨w.heap.size + 1, 0, none⟩ (.int .i64 0)).setCell ⟨w.heap.size + 1, 1, none⟩ (.int .i64 0)).setCell ⟨w.heap.size + 1, 2, none⟩ (.int .i64 0)).setCell ⟨w.heap.size + 1, 3, none⟩ (.slice none 0 0)).heap.size = wb.heap.size := by simp only [World.size_set]
      generalize ((((wb.setCell ⟨w.heap.size + 1, 0, none⟩ (.int .i64 0)).setCell ⟨w.heap.size + 1, 1, none⟩ (.int .i64 0)).setCell ⟨w.heap.size + 1, 2, none⟩ (.int .i64 0)).setCell ⟨w.heap.size + 1, 3, none⟩ (.slice none 0 0)) = WF at *
      refine bodyPost_ret (v := .agg #[.int .i64 0, .int .i64 0, .int .i64 0, .slice none 0 0]) (by simp [results, Try.results16, go_sem, r0, r1, r2, r3]) rfl ?_
      have hRW : mpRow zs n kd f = [] := by unfold mpRow; rw [HP.out]; rfl
      rw [hRW, HP.out]
      exact ⟨none, 0, 0, rfl, ⟨fun _ => rfl, Nat.le_refl _, by decide⟩, OwnR.none_ _ _ _ _, M⟩
    · rw [q2] at he
      subst he
      have HP := Lib.hid (show mpB n kd f = true by unfold mpB; rw [Q1.out, q2]; rfl)
      clear q2
      have hf : 0 ≤ f ∧ f ≤ (n : Int) - 1 := of_decide_eq_true Q1.out
      obtain ⟨m, rfl⟩ : ∃ m : Nat, f = (m : Int) := ⟨f.toNat, by omega⟩
      have hmn : m < n := by omega
      clear hf Q1
      obtain ⟨b, off, rfl, hb, _⟩ := h.2 (by omega)
      have hdr := HasR.drop (nc := 5) (cell := THop.cell) h (Nat.le_of_lt hmn)
      have hz3 := M.size
      go_wp2_with fail
      obtain ⟨β, hβ⟩ : ∃ β, Hid (β = betaV x1 zs n (m : Int)) := ⟨_, Lib.hid rfl⟩
      have yk : w.heap.size < wb.heap.size := by omega
      have yr : w.heap.size + 1 < wb.heap.size := by omega
      refine wp_region_fg (fun (g : Bxs) w' => (Mk0 wb w' ∧ w'.cell? ⟨w.heap.size, 0, none⟩ = some (.int .i64 x0) ∧ w'.cell? ⟨w.heap.size, 1, none⟩ = some (.int .i64 x1) ∧ w'.cell? ⟨w.heap.size, 2, none⟩ = some (.slice (some ⟨b, off, none⟩) n c) ∧ w'.cell? ⟨w.heap.size + 1, 0, none⟩ = some (.int .i64 0) ∧ w'.cell? ⟨w.heap.size + 1, 1, none⟩ = some (.int .i64 0) ∧ w'.cell? ⟨w.heap.size + 1, 2, none⟩ = some (.int .i64 0) ∧ w'.cell? ⟨w.heap.size + 1, 3, none⟩ = some (.slice none 0 0)) ∧ BxS wb.heap.size g w') (fgF [fun g v wv => v = .int .i64 kd, fun g v wv => v = .pointer (some ⟨w.heap.size, 0, none⟩), fun g v wv => v = .int .i64 x0, fun g v wv => v = .agg #[.int .i64 x0, .int .i64 x1, .slice (some ⟨b, off, none⟩) n c], fun g v wv => v = .int .i64 (m : Int), fun g v wv => v = .int .i64 β, fun g v wv => v = .agg #[.int .i64 kd, .int .i64 x0, .int .i64 β, .slice none 0 0], fun g v wv => BxZ g 7 [.int .i64 0, .int .i64 0, .int .i64 0, .slice none 0 0] v wv]) BxX (fun _ _ => False) 9 8 (by kernel_rfl) (by kernel_rfl) (by decide) (by decide) (by kernel_rfl) (fun h => absurd h (by decide)) (fgM_mono ⟨fun g g' v wv w' h x => h, fun g g' v wv w' h x => h, fun g g' v wv w' h x => h, fun g g' v wv w' h x => h, fun g g' v wv w' h x => h, fun g g' v wv w' h x => h, fun g g' v wv w' h x => h, fun g g' v wv w' h x => h.step x, trivial⟩) ⟨⟨Mk.drew1 _, k0, k1, k2, r0, r1, r2, r3⟩, BxS.none_ _ _⟩ ?_
      change WkG _ _ _ _ _ _ 9 8 8 0 _
      refine WkG.value (m := 7) (k := 0) (by decide) rfl rfl (of_decide_eq_true (by rfl)) rfl (fun g wv hS hF => ?_) (fun v0 => ?_)
      · obtain ⟨⟨s0, s1, s2, s3, s4, s5, s6, s7⟩, hB2⟩ := hS
        exact ⟨.int .i64 kd, wv, g, (by go_simp; try with_reducible rfl), ⟨⟨s0, s1, s2, s3, s4, s5, s6, s7⟩, hB2⟩, BxX.same (Mk.refl _ _ _), rfl⟩
      try simp only [Act.put, List.getElem_toArray, List.getElem_cons_zero, List.setIfInBounds_toArray, List.set_cons_zero, List.set_cons_succ]
      refine WkG.value (m := 6) (k := 1) (by decide) rfl rfl (of_decide_eq_true (by rfl)) rfl (fun g wv hS hF => ?_) (fun v1 => ?_)
      · obtain ⟨⟨s0, s1, s2, s3, s4, s5, s6, s7⟩, hB2⟩ := hS
        exact ⟨.pointer (some ⟨w.heap.size, 0, none⟩), wv, g, (by go_simp; try with_reducible rfl), ⟨⟨s0, s1, s2, s3, s4, s5, s6, s7⟩, hB2⟩, BxX.same (Mk.refl _ _ _), rfl⟩
      try simp only [Act.put, List.getElem_toArray, List.getElem_cons_succ, List.getElem_cons_zero, List.setIfInBounds_toArray, List.set_cons_zero, List.set_cons_succ]
      refine WkG.value (m := 5) (k := 2) (by decide) rfl rfl (of_decide_eq_true (by rfl)) rfl (fun g wv hS hF => ?_) (fun v2 => ?_)
      · obtain ⟨⟨s0, s1, s2, s3, s4, s5, s6, s7⟩, hB2⟩ := hS
        have f1 : v1 = .pointer (some ⟨w.heap.size, 0, none⟩) := hF 1 (by rfl)
        obtain rfl := f1
        exact ⟨.int .i64 x0, wv, g, (by go_simp; try with_reducible rfl), ⟨⟨s0, s1, s2, s3, s4, s5, s6, s7⟩, hB2⟩, BxX.same (Mk.refl _ _ _), rfl⟩
      try simp only [Act.put, List.getElem_toArray, List.getElem_cons_succ, List.getElem_cons_zero, List.setIfInBounds_toArray, List.set_cons_zero, List.set_cons_succ]
      refine WkG.value (m := 4) (k := 3) (by decide) rfl rfl (of_decide_eq_true (by rfl)) rfl (fun g wv hS hF => ?_) (fun v3 => ?_)
      · obtain ⟨⟨s0, s1, s2, s3, s4, s5, s6, s7⟩, hB2⟩ := hS
        exact ⟨.agg #[.int .i64 x0, .int .i64 x1, .slice (some ⟨b, off, none⟩) n c], wv, g, (by go_simp; try with_reducible rfl), ⟨⟨s0, s1, s2, s3, s4, s5, s6, s7⟩, hB2⟩, BxX.same (Mk.refl _ _ _), rfl⟩
      try simp only [Act.put, List.getElem_toArray, List.getElem_cons_succ, List.getElem_cons_zero, List.setIfInBounds_toArray, List.set_cons_zero, List.set_cons_succ]
      refine WkG.value (m := 3) (k := 4) (by decide) rfl rfl (of_decide_eq_true (by rfl)) rfl (fun g wv hS hF => ?_) (fun v4 => ?_)
      · obtain ⟨⟨s0, s1, s2, s3, s4, s5, s6, s7⟩, hB2⟩ := hS
        exact ⟨.int .i64 (m : Int), wv, g, (by go_simp; try with_reducible rfl), ⟨⟨s0, s1, s2, s3, s4, s5, s6, s7⟩, hB2⟩, BxX.same (Mk.refl _ _ _), rfl⟩
      try simp only [Act.put, List.getElem_toArray, List.getElem_cons_succ, List.getElem_cons_zero, List.setIfInBounds_toArray, List.set_cons_zero, List.set_cons_succ]
      refine WkG.call (m := 2) (k := 5) (by decide) rfl rfl (of_decide_eq_true (by rfl)) rfl (fun g wv hS hF => ?_) (fun v5 => ?_)
      · obtain ⟨⟨s0, s1, s2, s3, s4, s5, s6, s7⟩, hB2⟩ := hS
        have f3 : v3 = .agg #[.int .i64 x0, .int .i64 x1, .slice (some ⟨b, off, none⟩) n c] := hF 3 (by rfl)
        obtain rfl := f3
        have f4 : v4 = .int .i64 (m : Int) := hF 4 (by rfl)
        obtain rfl := f4
        refine ⟨_, _, (by go_simp; first | done | exact ⟨rfl, rfl⟩ | with_reducible rfl), ?_⟩
        refine ((specBetaAt x0 x1 (some ⟨b, off, none⟩) n c B zs (m : Int) wv (h.mk (M.trans s0) hB (.inr (Nat.le_refl _))) (Nat.le_trans hB (M.trans s0).size) hn)).mono ?_
        rintro e w' ⟨rfl, mm⟩
        exact ⟨_, g, rfl, ⟨⟨s0.trans mm, mm.cellAt s1, mm.cellAt s2, mm.cellAt s3, mm.cellAt s4, mm.cellAt s5, mm.cellAt s6, mm.cellAt s7⟩, hB2.mk0 mm⟩, BxX.same mm, (show Value.int .i64 (betaV x1 zs n (m : Int)) = .int .i64 β by rw [hβ.out])⟩
      try simp only [Act.put, List.getElem_toArray, List.getElem_cons_succ, List.getElem_cons_zero, List.setIfInBounds_toArray, List.set_cons_zero, List.set_cons_succ]
      refine WkG.value (m := 1) (k := 6) (by decide) rfl rfl (of_decide_eq_true (by rfl)) rfl (fun g wv hS hF => ?_) (fun v6 => ?_)
      · obtain ⟨⟨s0, s1, s2, s3, s4, s5, s6, s7⟩, hB2⟩ := hS
        have f0 : v0 = .int .i64 kd := hF 0 (by rfl)
        obtain rfl := f0
        have f2 : v2 = .int .i64 x0 := hF 2 (by rfl)
        obtain rfl := f2
        have f5 : v5 = .int .i64 β := hF 5 (by rfl)
        obtain rfl := f5
        exact ⟨.agg #[.int .i64 kd, .int .i64 x0, .int .i64 β, .slice none 0 0], wv, g, (by go_simp; try with_reducible rfl), ⟨⟨s0, s1, s2, s3, s4, s5, s6, s7⟩, hB2⟩, BxX.same (Mk.refl _ _ _), rfl⟩
      try simp only [Act.put, List.getElem_toArray, List.getElem_cons_succ, List.getElem_cons_zero, List.setIfInBounds_toArray, List.set_cons_zero, List.set_cons_succ]
      refine WkG.value (m := 0) (k := 7) (by decide) rfl rfl (of_decide_eq_true (by rfl)) rfl (fun g wv hS hF => ?_) (fun v7 => ?_)
      · obtain ⟨⟨s0, s1, s2, s3, s4, s5, s6, s7⟩, hB2⟩ := hS
        have mm := Mk.alloc wv (Obj.cells #[.int .i64 0, .int .i64 0, .int .i64 0, .slice none 0 0] 35)
        exact ⟨.pointer (some ⟨wv.heap.size, 0, none⟩), (wv.alloc (Obj.cells #[.int .i64 0, .int .i64 0, .int .i64 0, .slice none 0 0] 35)), bxP g 7 wv.heap.size, (by go_simp; try with_reducible rfl), ⟨⟨s0.trans mm, mm.cellAt s1, mm.cellAt s2, mm.cellAt s3, mm.cellAt s4, mm.cellAt s5, mm.cellAt s6, mm.cellAt s7⟩, hB2.put s0.size 7 (Obj.cells #[.int .i64 0, .int .i64 0, .int .i64 0, .slice none 0 0] 35)⟩, BxX.put 7 (Obj.cells #[.int .i64 0, .int .i64 0, .int .i64 0, .slice none 0 0] 35), BxZ.new g 7 [.int .i64 0, .int .i64 0, .int .i64 0, .slice none 0 0] 35 wv⟩
      try simp only [Act.put, List.getElem_toArray, List.getElem_cons_succ, List.getElem_cons_zero, List.setIfInBounds_toArray, List.set_cons_zero, List.set_cons_succ]
      refine WkG.done fun gE wE hE hF => ?_
      clear k0 k1 k2 r0 r1 r2 r3
      obtain ⟨⟨mE, k0, k1, k2, r0, r1, r2, r3⟩, hBE⟩ := hE
      change wpAny _ _ _ _ 1 _ _ _
      have f6 : v6 = .agg #[.int .i64 kd, .int .i64 x0, .int .i64 β, .slice none 0 0] := hF 6 (by decide)
      obtain rfl := f6
      have f7 : BxZ gE 7 [.int .i64 0, .int .i64 0, .int .i64 0, .slice none 0 0] v7 wE := hF 7 (by decide)
      obtain ⟨P, hgP, rfl, hPs, hz, hfP⟩ := f7
      have hPl := hBE.lo 7 P hgP
      have p0 := hz 0 _ rfl
      have p1 := hz 1 _ rfl
      have p2 := hz 2 _ rfl
      have p3 := hz 3 _ rfl
      clear hF
      refine wpAny_ready (rs := [8]) (by kernel_rfl) (by simp) ?_
      refine (AllReady.cons rfl (fun K hK => ?_) AllReady.nil)
      go_simp
      refine hK _ _ ?_
      clear hK K
      try simp only [Act.put, List.getElem_toArray, List.getElem_cons_succ, List.getElem_cons_zero, List.setIfInBounds_toArray, List.set_cons_zero, List.set_cons_succ]
      have nk : P ≠ w.heap.size := by omega
      have nr : P ≠ w.heap.size + 1 := by omega
      replace p0 := World.cell?_setCell_same _ _ (.int .i64 kd) p0
      replace p1 := cell_set p1 ⟨P, 0, none⟩ (.int .i64 kd) (.inr (by simp))
      replace p2 := cell_set p2 ⟨P, 0, none⟩ (.int .i64 kd) (.inr (by simp))
      replace p3 := cell_set p3 ⟨P, 0, none⟩ (.int .i64 kd) (.inr (by simp))
      replace k0 := cell_set k0 ⟨P, 0, none⟩ (.int .i64 kd) (.inl nk)
      replace k1 := cell_set k1 ⟨P, 0, none⟩ (.int .i64 kd) (.inl nk)
      replace k2 := cell_set k2 ⟨P, 0, none⟩ (.int .i64 kd) (.inl nk)
      replace r0 := cell_set r0 ⟨P, 0, none⟩ (.int .i64 kd) (.inl nr)
      replace r1 := cell_set r1 ⟨P, 0, none⟩ (.int .i64 kd) (.inl nr)
      replace r2 := cell_set r2 ⟨P, 0, none⟩ (.int .i64 kd) (.inl nr)
      replace r3 := cell_set r3 ⟨P, 0, none⟩ (.int .i64 kd) (.inl nr)
      replace hfP := fun q => frozen_set (hfP q) ⟨P, 0, none⟩ (.int .i64 kd)
      replace mE := mE.put ⟨P, 0, none⟩ (.int .i64 kd) hPl
      replace p0 := cell_set p0 ⟨P, 1, none⟩ (.int .i64 x0) (.inr (by simp))
      replace p1 := World.cell?_setCell_same _ _ (.int .i64 x0) p1
      replace p2 := cell_set p2 ⟨P, 1, none⟩ (.int .i64 x0) (.inr (by simp))
      replace p3 := cell_set p3 ⟨P, 1, none⟩ (.int .i64 x0) (.inr (by simp))
      replace k0 := cell_set k0 ⟨P, 1, none⟩ (.int .i64 x0) (.inl nk)
      replace k1 := cell_set k1 ⟨P, 1, none⟩ (.int .i64 x0) (.inl nk)
      replace k2 := cell_set k2 ⟨P, 1, none⟩ (.int .i64 x0) (.inl nk)
      replace r0 := cell_set r0 ⟨P, 1, none⟩ (.int .i64 x0) (.inl nr)
      replace r1 := cell_set r1 ⟨P, 1, none⟩ (.int .i64 x0) (.inl nr)
      replace r2 := cell_set r2 ⟨P, 1, none⟩ (.int .i64 x0) (.inl nr)
      replace r3 := cell_set r3 ⟨P, 1, none⟩ (.int .i64 x0) (.inl nr)
      replace hfP := fun q => frozen_set (hfP q) ⟨P, 1, none⟩ (.int .i64 x0)
      replace mE := mE.put ⟨P, 1, none⟩ (.int .i64 x0) hPl
      replace p0 := cell_set p0 ⟨P, 2, none⟩ (.int .i64 β) (.inr (by simp))
      replace p1 := cell_set p1 ⟨P, 2, none⟩ (.int .i64 β) (.inr (by simp))
      replace p2 := World.cell?_setCell_same _ _ (.int .i64 β) p2
      replace p3 := cell_set p3 ⟨P, 2, none⟩ (.int .i64 β) (.inr (by simp))
      replace k0 := cell_set k0 ⟨P, 2, none⟩ (.int .i64 β) (.inl nk)
      replace k1 := cell_set k1 ⟨P, 2, none⟩ (.int .i64 β) (.inl nk)
      replace k2 := cell_set k2 ⟨P, 2, none⟩ (.int .i64 β) (.inl nk)
      replace r0 := cell_set r0 ⟨P, 2, none⟩ (.int .i64 β) (.inl nr)
      replace r1 := cell_set r1 ⟨P, 2, none⟩ (.int .i64 β) (.inl nr)
      replace r2 := cell_set r2 ⟨P, 2, none⟩ (.int .i64 β) (.inl nr)
      replace r3 := cell_set r3 ⟨P, 2, none⟩ (.int .i64 β) (.inl nr)
      replace hfP := fun q => frozen_set (hfP q) ⟨P, 2, none⟩ (.int .i64 β)
      replace mE := mE.put ⟨P, 2, none⟩ (.int .i64 β) hPl
      replace p0 := cell_set p0 ⟨P, 3, none⟩ (.slice none 0 0) (.inr (by simp))
      replace p1 := cell_set p1 ⟨P, 3, none⟩ (.slice none 0 0) (.inr (by simp))
      replace p2 := cell_set p2 ⟨P, 3, none⟩ (.slice none 0 0) (.inr (by simp))
      replace p3 := World.cell?_setCell_same _ _ (.slice none 0 0) p3
      replace k0 := cell_set k0 ⟨P, 3, none⟩ (.slice none 0 0) (.inl nk)
      replace k1 := cell_set k1 ⟨P, 3, none⟩ (.slice none 0 0) (.inl nk)
      replace k2 := cell_set k2 ⟨P, 3, none⟩ (.slice none 0 0) (.inl nk)
      replace r0 := cell_set r0 ⟨P, 3, none⟩ (.slice none 0 0) (.inl nr)
      replace r1 := cell_set r1 ⟨P, 3, none⟩ (.slice none 0 0) (.inl nr)
      replace r2 := cell_set r2 ⟨P, 3, none⟩ (.slice none 0 0) (.inl nr)
      replace r3 := cell_set r3 ⟨P, 3, none⟩ (.slice none 0 0) (.inl nr)
      replace hfP := fun q => frozen_set (hfP q) ⟨P, 3, none⟩ (.slice none 0 0)
      replace mE := mE.put ⟨P, 3, none⟩ (.slice none 0 0) hPl
      have zq : ((((wE.setCell ⟨P, 0, none⟩ (.int .i64 kd)).setCell ⟨P, 1, none⟩ (.int .i64 x0)).setCell ⟨P, 2, none⟩ (.int .i64 β)).setCell ⟨P, 3, none⟩ (.slice none 0 0)).heap.size = wE.heap.size := by simp only [World.size_set]
      clear hz hgP hBE
      generalize ((((wE.setCell ⟨P, 0, none⟩ (.int .i64 kd)).setCell ⟨P, 1, none⟩ (.int .i64 x0)).setCell ⟨P, 2, none⟩ (.int .i64 β)).setCell ⟨P, 3, none⟩ (.slice none 0 0)) = w5 at *
      rw [← zq] at hPs
      clear zq
      refine wpAny_doneN (by kernel_rfl) ?_
      refine ‹∀ (a : Act) (w : World), _ → _› _ _ ?_
      go_wp2_with fail
      refine (specRev kd _).mono ?_
      rintro e w6 ⟨he, m6⟩
      replace k0 := m6.cellAt k0
      replace k1 := m6.cellAt k1
      replace k2 := m6.cellAt k2
      replace r0 := m6.cellAt r0
      replace r1 := m6.cellAt r1
      replace r2 := m6.cellAt r2
      replace r3 := m6.cellAt r3
      replace p0 := m6.cellAt p0
      replace p1 := m6.cellAt p1
      replace p2 := m6.cellAt p2
      replace p3 := m6.cellAt p3
      replace hfP := fun q => (m6.frozen (b := P) (o := q) hPs (.inr (Nat.zero_le _))).trans (hfP q)
      have z6 := m6.size
      replace mE := mE.trans m6
      clear m6
      have fR6 : ∀ q, w6.frozen? ⟨w.heap.size + 1, q, none⟩ = false := fun q => (mE.frozen (b := w.heap.size + 1) (o := q) yr (.inr (Nat.zero_le _))).trans (fR q)
      have M6 := M.trans mE
      cases q3 : revB kd
      · have HR := Lib.hid (show mpRow zs n kd (m : Int) = zs.drop m by unfold mpRow; rw [HP.out, q3]; rfl)
        have HBt := Lib.hid (show mpBeta x1 zs n kd (m : Int) = β by unfold mpBeta; rw [q3, if_neg (by decide), hβ.out])
        rw [q3] at he
        subst he
        clear q3
        have hA := own_emptyR w6 68 5
        have mA := Mk.alloc w6 (.cells #[] 68)
        have zA := mA.size
        replace k0 := mA.cellAt k0
        replace k1 := mA.cellAt k1
        replace k2 := mA.cellAt k2
        replace r0 := mA.cellAt r0
        replace r1 := mA.cellAt r1
        replace r2 := mA.cellAt r2
        replace r3 := mA.cellAt r3
        replace p0 := mA.cellAt p0
        replace p1 := mA.cellAt p1
        replace p2 := mA.cellAt p2
        replace p3 := mA.cellAt p3
        have fR7 : ∀ q, (w6.alloc (.cells #[] 68)).frozen? ⟨w.heap.size + 1, q, none⟩ = false := fun q => (mA.frozen (b := w.heap.size + 1) (o := q) (by omega) (.inr (Nat.zero_le _))).trans (fR6 q)
        have hfA : ∀ q, (w6.alloc (.cells #[] 68)).frozen? ⟨P, q, none⟩ = false := fun q => (mA.frozen (b := P) (o := q) (by omega) (.inr (Nat.zero_le _))).trans (hfP q)
        have j1 : (0 : Int) ≤ (m : Int) := by omega
        have j2 : (m : Int) ≤ (n : Int) := by omega
        have j3 : (n : Int) ≤ (c : Int) := by omega
        have j4 : ¬ c = m := by omega
        have hD := (hdr.mk (M6.trans mA) hB (.inr (Nat.le_refl _))).mono (Nat.le_trans hB (M6.trans mA).size)
        have hlo : P + 1 ≤ (w6.alloc (.cells #[] 68)).heap.size := by omega
        replace hA := own_lowR (lo := P + 1) hA (by omega)
        go_wp2_with (at_builtin; refine wpList_appR (by decide) (cell := THop.cell) oneHopM rfl (.tmp 32) (.tmp 36) 26 rfl (P + 1) 68 i0 _ Try.underlying26 hi0 hz0 rfl hz1 (by rw [hz2]; decide) _ [] 0 rfl hA (some ⟨b, off + m * 5, none⟩) (n - m) (c - m) (zs.drop m) rfl (fun h => by cases h) hD (by omega) hlo ?_; intro v2 w8 hown hgr; have hne : ∀ q, (Value.slice (some ⟨w6.heap.size, 0, none⟩) 0 0).ownBlock = some q → q ≠ P := fun q e => (by have := (hA.lt q e).1; omega); have p3' := grown_cell p3 hgr hne; have pf := fun q => grown_frz (hfA q) (World.block_lt_of_cell? _ _ p3) hgr hne; have hne2 : ∀ (B : Nat), B < P → ∀ q, (Value.slice (some ⟨w6.heap.size, 0, none⟩) 0 0).ownBlock = some q → q ≠ B := fun B hB q e => (by have := (hA.lt q e).1; omega); have zg := hgr.size; have bk := World.block_lt_of_cell? _ _ k0; have br := World.block_lt_of_cell? _ _ r0; simp only at bk br; replace k0 := grown_cell k0 hgr (hne2 _ (by omega)); replace k1 := grown_cell k1 hgr (hne2 _ (by omega)); replace k2 := grown_cell k2 hgr (hne2 _ (by omega)); replace r0 := grown_cell r0 hgr (hne2 _ (by omega)); replace r1 := grown_cell r1 hgr (hne2 _ (by omega)); replace r2 := grown_cell r2 hgr (hne2 _ (by omega)); replace r3 := grown_cell r3 hgr (hne2 _ (by omega)); replace p0 := grown_cell p0 hgr hne; replace p1 := grown_cell p1 hgr hne; replace p2 := grown_cell p2 hgr hne; replace fR7 := fun q => grown_frz (fR7 q) br hgr (hne2 _ (by omega)); obtain ⟨A, C, rfl, hca, hcb⟩ := ownsRow_sliceR2 hown)
        have M8 := (M6.trans mA).appR hgr (fun g hg => by have := (hA.lt g hg).1; omega)
        simp only [List.nil_append, Nat.zero_add] at hown
        have hO := ownsRow_ownR (by decide) hown
        have hNl : n - m = n - m := rfl
        replace k0 := cell_set k0 ⟨P, 3, none⟩ (.slice A (n - m) C) (.inl nk)
        replace k1 := cell_set k1 ⟨P, 3, none⟩ (.slice A (n - m) C) (.inl nk)
        replace k2 := cell_set k2 ⟨P, 3, none⟩ (.slice A (n - m) C) (.inl nk)
        replace r0 := cell_set r0 ⟨P, 3, none⟩ (.slice A (n - m) C) (.inl nr)
        replace r1 := cell_set r1 ⟨P, 3, none⟩ (.slice A (n - m) C) (.inl nr)
        replace r2 := cell_set r2 ⟨P, 3, none⟩ (.slice A (n - m) C) (.inl nr)
        replace r3 := cell_set r3 ⟨P, 3, none⟩ (.slice A (n - m) C) (.inl nr)
        replace p0 := cell_set p0 ⟨P, 3, none⟩ (.slice A (n - m) C) (.inr (by simp))
        replace p1 := cell_set p1 ⟨P, 3, none⟩ (.slice A (n - m) C) (.inr (by simp))
        replace p2 := cell_set p2 ⟨P, 3, none⟩ (.slice A (n - m) C) (.inr (by simp))
        replace p3' := World.cell?_setCell_same _ _ (.slice A (n - m) C) p3'
        replace fR7 := fun q => frozen_set (fR7 q) ⟨P, 3, none⟩ (.slice A (n - m) C)
        replace hO := hO.set ⟨P, 3, none⟩ (.slice A (n - m) C) (.inl (Nat.lt_succ_self _))
        replace M8 := M8.put ⟨P, 3, none⟩ (.slice A (n - m) C) (show w.heap.size ≤ P by omega)
        have zs9 : (w8.setCell ⟨P, 3, none⟩ (.slice A (n - m) C)).heap.size = w8.heap.size := by simp only [World.size_set]
        generalize (w8.setCell ⟨P, 3, none⟩ (.slice A (n - m) C)) = w9 at *
        rw [Nat.zero_add] at hcb
        have hc := And.intro hca hcb
        have M6 := M8
        have hhi : w8.heap.size ≤ w9.heap.size := by omega
        clear hown hgr hA hdr hD
        replace r0 := World.cell?_setCell_same _ _ (.int .i64 kd) r0
        replace r1 := cell_set r1 ⟨w.heap.size + 1, 0, none⟩ (.int .i64 kd) (.inr (by simp))
        replace r2 := cell_set r2 ⟨w.heap.size + 1, 0, none⟩ (.int .i64 kd) (.inr (by simp))
        replace r3 := cell_set r3 ⟨w.heap.size + 1, 0, none⟩ (.int .i64 kd) (.inr (by simp))
        replace hO := hO.set ⟨w.heap.size + 1, 0, none⟩ (.int .i64 kd) (.inl (show w.heap.size + 1 < _ from by omega))
        replace M6 := M6.put ⟨w.heap.size + 1, 0, none⟩ (.int .i64 kd) (show w.heap.size ≤ w.heap.size + 1 from by omega)
        replace r0 := cell_set r0 ⟨w.heap.size + 1, 1, none⟩ (.int .i64 x0) (.inr (by simp))
        replace r1 := World.cell?_setCell_same _ _ (.int .i64 x0) r1
        replace r2 := cell_set r2 ⟨w.heap.size + 1, 1, none⟩ (.int .i64 x0) (.inr (by simp))
        replace r3 := cell_set r3 ⟨w.heap.size + 1, 1, none⟩ (.int .i64 x0) (.inr (by simp))
        replace hO := hO.set ⟨w.heap.size + 1, 1, none⟩ (.int .i64 x0) (.inl (show w.heap.size + 1 < _ from by omega))
        replace M6 := M6.put ⟨w.heap.size + 1, 1, none⟩ (.int .i64 x0) (show w.heap.size ≤ w.heap.size + 1 from by omega)
        replace r0 := cell_set r0 ⟨w.heap.size + 1, 2, none⟩ (.int .i64 β) (.inr (by simp))
        replace r1 := cell_set r1 ⟨w.heap.size + 1, 2, none⟩ (.int .i64 β) (.inr (by simp))
        replace r2 := World.cell?_setCell_same _ _ (.int .i64 β) r2
        replace r3 := cell_set r3 ⟨w.heap.size + 1, 2, none⟩ (.int .i64 β) (.inr (by simp))
        replace hO := hO.set ⟨w.heap.size + 1, 2, none⟩ (.int .i64 β) (.inl (show w.heap.size + 1 < _ from by omega))
        replace M6 := M6.put ⟨w.heap.size + 1, 2, none⟩ (.int .i64 β) (show w.heap.size ≤ w.heap.size + 1 from by omega)
        replace r0 := cell_set r0 ⟨w.heap.size + 1, 3, none⟩ (.slice A (n - m) C) (.inr (by simp))
        replace r1 := cell_set r1 ⟨w.heap.size + 1, 3, none⟩ (.slice A (n - m) C) (.inr (by simp))
        replace r2 := cell_set r2 ⟨w.heap.size + 1, 3, none⟩ (.slice A (n - m) C) (.inr (by simp))
        replace r3 := World.cell?_setCell_same _ _ (.slice A (n - m) C) r3
        replace hO := hO.set ⟨w.heap.size + 1, 3, none⟩ (.slice A (n - m) C) (.inl (show w.heap.size + 1 < _ from by omega))
        replace M6 := M6.put ⟨w.heap.size + 1, 3, none⟩ (.slice A (n - m) C) (show w.heap.size ≤ w.heap.size + 1 from by omega)
        have zF : ((((w9.setCell ⟨w.heap.size + 1, 0, none⟩ (.int .i64 kd)).setCell ⟨w.heap.size + 1, 1, none⟩ (.int .i64 x0)).setCell ⟨w.heap.size + 1, 2, none⟩ (.int .i64 β)).setCell ⟨w.heap.size + 1, 3, none⟩ (.slice A (n - m) C)).heap.size = w9.heap.size := by simp only [World.size_set]
        generalize ((((w9.setCell ⟨w.heap.size + 1, 0, none⟩ (.int .i64 kd)).setCell ⟨w.heap.size + 1, 1, none⟩ (.int .i64 x0)).setCell ⟨w.heap.size + 1, 2, none⟩ (.int .i64 β)).setCell ⟨w.heap.size + 1, 3, none⟩ (.slice A (n - m) C)) = WF at *
        refine bodyPost_ret (v := .agg #[.int .i64 kd, .int .i64 x0, .int .i64 β, .slice A (n - m) C]) (by simp [results, Try.results16, go_sem, r0, r1, r2, r3]) rfl ?_
        rw [HR.out, HP.out, HBt.out]
        exact ⟨A, (n - m), C, rfl, hc, hO.wide (by omega) (by omega), M6⟩
      · obtain ⟨β2, hβ2⟩ : ∃ β, Hid (β = betaV x1 zs n (n : Int)) := ⟨_, Lib.hid rfl⟩
        have HBt := Lib.hid (show mpBeta x1 zs n kd (m : Int) = β2 by unfold mpBeta; rw [q3, if_pos rfl, hβ2.out])
        have HR := Lib.hid (show mpRow zs n kd (m : Int) = (turnP zs n).take (n - m) by unfold mpRow; rw [HP.out, q3]; rfl)
        rw [q3] at he
        subst he
        clear q3 hdr
        have KB := specBetaAt x0 x1 (some ⟨b, off, none⟩) n c B zs (n : Int) w6 (h.mk M6 hB (.inr (Nat.le_refl _))) (Nat.le_trans hB M6.size) hn
        rw [← hβ2.out] at KB
        go_wp2_with fail
        refine KB.mono ?_
        rintro e w8 ⟨rfl, m8⟩
        replace k0 := m8.cellAt k0
        replace k1 := m8.cellAt k1
        replace k2 := m8.cellAt k2
        replace r0 := m8.cellAt r0
        replace r1 := m8.cellAt r1
        replace r2 := m8.cellAt r2
        replace r3 := m8.cellAt r3
        replace p0 := m8.cellAt p0
        replace p1 := m8.cellAt p1
        replace p2 := m8.cellAt p2
        replace p3 := m8.cellAt p3
        replace hfP := fun q => (m8.frozen (b := P) (o := q) (by omega) (.inr (Nat.zero_le _))).trans (hfP q)
        have z8 := m8.size
        replace mE := mE.trans m8
        clear m8 KB M6 fR6
        go_wp2_with fail
        replace k0 := cell_set k0 ⟨P, 2, none⟩ (.int .i64 β2) (.inl nk)
        replace k1 := cell_set k1 ⟨P, 2, none⟩ (.int .i64 β2) (.inl nk)
        replace k2 := cell_set k2 ⟨P, 2, none⟩ (.int .i64 β2) (.inl nk)
        replace r0 := cell_set r0 ⟨P, 2, none⟩ (.int .i64 β2) (.inl nr)
        replace r1 := cell_set r1 ⟨P, 2, none⟩ (.int .i64 β2) (.inl nr)
        replace r2 := cell_set r2 ⟨P, 2, none⟩ (.int .i64 β2) (.inl nr)
        replace r3 := cell_set r3 ⟨P, 2, none⟩ (.int .i64 β2) (.inl nr)
        replace p0 := cell_set p0 ⟨P, 2, none⟩ (.int .i64 β2) (.inr (by simp))
        replace p1 := cell_set p1 ⟨P, 2, none⟩ (.int .i64 β2) (.inr (by simp))
        replace p2 := World.cell?_setCell_same _ _ (.int .i64 β2) p2
        replace p3 := cell_set p3 ⟨P, 2, none⟩ (.int .i64 β2) (.inr (by simp))
        replace hfP := fun q => frozen_set (hfP q) ⟨P, 2, none⟩ (.int .i64 β2)
        replace mE := mE.put ⟨P, 2, none⟩ (.int .i64 β2) hPl
        have hsL : P + 1 ≤ (w8.setCell ⟨P, 2, none⟩ (.int .i64 β2)).heap.size := by simp only [World.size_set]; omega
        generalize (w8.setCell ⟨P, 2, none⟩ (.int .i64 β2)) = wL at *
        have FRB := Lib.hid fR
        clear fR
        go_loopw [8] (fun i wr => ∃ (k : Nat) (A : Option Addr) (C : Nat), k ≤ n - m ∧ i = .int .i64 ((n : Int) - 1 - (k : Int)) ∧ (wr.cell? ⟨P, 0, none⟩ = some (.int .i64 kd) ∧ wr.cell? ⟨P, 1, none⟩ = some (.int .i64 x0) ∧ wr.cell? ⟨P, 2, none⟩ = some (.int .i64 β2) ∧ wr.cell? ⟨P, 3, none⟩ = some (.slice A k C) ∧ ∀ q, wr.frozen? ⟨P, q, none⟩ = false) ∧ wr.ownsRow (P + 1) 68 5 (.slice A k C) k (rowC 5 THop.cell ((turnP zs n).take k)) ∧ (wr.cell? ⟨w.heap.size, 2, none⟩ = some (.slice (some ⟨b, off, none⟩) n c) ∧ wr.cell? ⟨w.heap.size + 1, 0, none⟩ = some (.int .i64 0) ∧ wr.cell? ⟨w.heap.size + 1, 1, none⟩ = some (.int .i64 0) ∧ wr.cell? ⟨w.heap.size + 1, 2, none⟩ = some (.int .i64 0) ∧ wr.cell? ⟨w.heap.size + 1, 3, none⟩ = some (.slice none 0 0)) ∧ Mk0 wb wr ∧ P + 1 ≤ wr.heap.size) (fun i _ => (intOf i + 1).toNat)
        case atStart => exact ⟨0, none, 0, Nat.zero_le _, by simp, ⟨p0, p1, p2, p3, hfP⟩, own_nilR _ _ _ _, ⟨k2, r0, r1, r2, r3⟩, mE, hsL⟩
        case round =>
          clear p0 p1 p2 p3 hfP mE hsL k0 k1 k2 r0 r1 r2 r3
          obtain ⟨k, A, C, hk, rfl, ⟨q0, q1, q2, q3, fq⟩, hown, ⟨k2, r0, r1, r2, r3⟩, hM, hsz⟩ := hrel
          have hMW := M.trans hM
          by_cases hlt : k < n - m
          · obtain ⟨u, hu⟩ : ∃ u, Hid (n = u + k + 1) := ⟨n - 1 - k, by show n = n - 1 - k + k + 1; omega⟩
            have hun : u < n := by have := hu.out; omega
            have hmu : m ≤ u := by have := hu.out; omega
            rw [show (n : Int) - 1 - (k : Int) = (u : Int) by have := hu.out; omega]
            obtain ⟨b', off', x, e9, hb', hx, c0, c1, c2, c3, c4⟩ := HasHop.at _ _ _ _ _ _ (h.mk hMW hB (.inr (Nat.le_refl _))) hun
            simp only [Option.some.injEq, Addr.mk.injEq, and_true] at e9
            obtain ⟨rfl, rfl⟩ := e9
            have hbr := World.block_lt_of_cell? _ _ c0
            simp only at hbr
            have HT := Lib.hid (show (turnP zs n).take (k + 1) = (turnP zs n).take k ++ [x] by unfold turnP; rw [turnL_take _ _ _ _ (by omega), hx.out, show n - 1 - k = u by have := hu.out; omega])
            have i1 : (0 : Int) ≤ (u : Int) := by omega
            have i2 : (u : Int) < (n : Int) := by omega
            have i3 : (m : Int) ≤ (u : Int) := by omega
            have hkb : k ≤ 1048576 := by omega
            go_wp2_with fail
            refine wp_region_wks (fun w' => Mk0 wr w' ∧ w'.cell? ⟨P, 3, none⟩ = some (.slice A k C) ∧ w'.cell? ⟨w.heap.size, 2, none⟩ = some (.slice (some ⟨b, off, none⟩) n c) ∧ w'.cell? ⟨b, off + u * 5, none⟩ = some (.int .i64 x.nd) ∧ w'.cell? ⟨b, off + u * 5 + 1, none⟩ = some (.int .i64 x.ing) ∧ w'.cell? ⟨b, off + u * 5 + 2, none⟩ = some (.int .i64 x.eg) ∧ w'.cell? ⟨b, off + u * 5 + 3, none⟩ = some (.int .i64 x.exp) ∧ w'.cell? ⟨b, off + u * 5 + 4, none⟩ = some (.int .i64 x.mac)) 7 8 (by kernel_rfl) (by kernel_rfl) (by kernel_rfl) (by decide) (by decide) (⟨Mk.drew1 _, q3, k2, c0, c1, c2, c3, c4⟩) ?_
            change WkS _ _ _ _ _ _ 7 0 _
            first | (refine WkS.skip (m := 6) (k := 0) rfl (by rfl) ?_) | (refine WkS.pure (m := 6) (k := 0) (v := _) rfl (by rfl) (fun wv => by go_simp; try with_reducible rfl) ?_) | (refine WkS.step (m := 6) (k := 0) (v := _) rfl (by rfl) (by kernel_rfl) (fun wv hS => by obtain ⟨s0, s1, s2, s3, s4, s5, s6, s7⟩ := hS; go_simp; try with_reducible rfl) ?_)
            try simp only [Act.put, List.getElem_toArray, List.getElem_cons_zero, List.setIfInBounds_toArray, List.set_cons_zero, List.set_cons_succ]
            first | (refine WkS.skip (m := 5) (k := 1) rfl (by rfl) ?_) | (refine WkS.pure (m := 5) (k := 1) (v := _) rfl (by rfl) (fun wv => by go_simp; try with_reducible rfl) ?_) | (refine WkS.step (m := 5) (k := 1) (v := _) rfl (by rfl) (by kernel_rfl) (fun wv hS => by obtain ⟨s0, s1, s2, s3, s4, s5, s6, s7⟩ := hS; go_simp; try with_reducible rfl) ?_)
            try simp only [Act.put, List.getElem_toArray, List.getElem_cons_succ, List.getElem_cons_zero, List.setIfInBounds_toArray, List.set_cons_zero, List.set_cons_succ]
            first | (refine WkS.skip (m := 4) (k := 2) rfl (by rfl) ?_) | (refine WkS.pure (m := 4) (k := 2) (v := _) rfl (by rfl) (fun wv => by go_simp; try with_reducible rfl) ?_) | (refine WkS.step (m := 4) (k := 2) (v := _) rfl (by rfl) (by kernel_rfl) (fun wv hS => by obtain ⟨s0, s1, s2, s3, s4, s5, s6, s7⟩ := hS; go_simp; try with_reducible rfl) ?_)
            try simp only [Act.put, List.getElem_toArray, List.getElem_cons_succ, List.getElem_cons_zero, List.setIfInBounds_toArray, List.set_cons_zero, List.set_cons_succ]
            first | (refine WkS.skip (m := 3) (k := 3) rfl (by rfl) ?_) | (refine WkS.pure (m := 3) (k := 3) (v := _) rfl (by rfl) (fun wv => by go_simp; try with_reducible rfl) ?_) | (refine WkS.step (m := 3) (k := 3) (v := _) rfl (by rfl) (by kernel_rfl) (fun wv hS => by obtain ⟨s0, s1, s2, s3, s4, s5, s6, s7⟩ := hS; go_simp; try with_reducible rfl) ?_)
            try simp only [Act.put, List.getElem_toArray, List.getElem_cons_succ, List.getElem_cons_zero, List.setIfInBounds_toArray, List.set_cons_zero, List.set_cons_succ]
            first | (refine WkS.skip (m := 2) (k := 4) rfl (by rfl) ?_) | (refine WkS.pure (m := 2) (k := 4) (v := _) rfl (by rfl) (fun wv => by go_simp; try with_reducible rfl) ?_) | (refine WkS.step (m := 2) (k := 4) (v := _) rfl (by rfl) (by kernel_rfl) (fun wv hS => by obtain ⟨s0, s1, s2, s3, s4, s5, s6, s7⟩ := hS; go_simp; try with_reducible rfl) ?_)
            try simp only [Act.put, List.getElem_toArray, List.getElem_cons_succ, List.getElem_cons_zero, List.setIfInBounds_toArray, List.set_cons_zero, List.set_cons_succ]
            first | (refine WkS.skip (m := 1) (k := 5) rfl (by rfl) ?_) | (refine WkS.pure (m := 1) (k := 5) (v := _) rfl (by rfl) (fun wv => by go_simp; try with_reducible rfl) ?_) | (refine WkS.step (m := 1) (k := 5) (v := _) rfl (by rfl) (by kernel_rfl) (fun wv hS => by obtain ⟨s0, s1, s2, s3, s4, s5, s6, s7⟩ := hS; go_simp; try with_reducible rfl) ?_)
            try simp only [Act.put, List.getElem_toArray, List.getElem_cons_succ, List.getElem_cons_zero, List.setIfInBounds_toArray, List.set_cons_zero, List.set_cons_succ]
            first | (refine WkS.skip (m := 0) (k := 6) rfl (by rfl) ?_) | (refine WkS.pure (m := 0) (k := 6) (v := _) rfl (by rfl) (fun wv => by go_simp; try with_reducible rfl) ?_) | (refine WkS.step (m := 0) (k := 6) (v := _) rfl (by rfl) (by kernel_rfl) (fun wv hS => by obtain ⟨s0, s1, s2, s3, s4, s5, s6, s7⟩ := hS; go_simp; try with_reducible rfl) ?_)
            try simp only [Act.put, List.getElem_toArray, List.getElem_cons_succ, List.getElem_cons_zero, List.setIfInBounds_toArray, List.set_cons_zero, List.set_cons_succ]
            refine WkS.done fun wE hE => ?_
            clear q3 k2 c0 c1 c2 c3 c4
            obtain ⟨mE, q3, k2, c0, c1, c2, c3, c4⟩ := hE
            have zE0 := mE.size
            change wpSoft _ _ _ _ 8 1 _ _
            refine wpSoft.value (n := 0) (w1 := (wE.alloc (Obj.cells #[.int .i64 x.nd, .int .i64 x.ing, .int .i64 x.eg, .int .i64 x.exp, .int .i64 x.mac] 68))) _ rfl (by rfl) (by go_simp; first | done | exact ⟨rfl, rfl⟩ | with_reducible rfl) ⟨mE.trans (Mk.alloc wE (Obj.cells #[.int .i64 x.nd, .int .i64 x.ing, .int .i64 x.eg, .int .i64 x.exp, .int .i64 x.mac] 68)), (Mk.alloc wE (Obj.cells #[.int .i64 x.nd, .int .i64 x.ing, .int .i64 x.eg, .int .i64 x.exp, .int .i64 x.mac] 68)).cellAt q3, (Mk.alloc wE (Obj.cells #[.int .i64 x.nd, .int .i64 x.ing, .int .i64 x.eg, .int .i64 x.exp, .int .i64 x.mac] 68)).cellAt k2, (Mk.alloc wE (Obj.cells #[.int .i64 x.nd, .int .i64 x.ing, .int .i64 x.eg, .int .i64 x.exp, .int .i64 x.mac] 68)).cellAt c0, (Mk.alloc wE (Obj.cells #[.int .i64 x.nd, .int .i64 x.ing, .int .i64 x.eg, .int .i64 x.exp, .int .i64 x.mac] 68)).cellAt c1, (Mk.alloc wE (Obj.cells #[.int .i64 x.nd, .int .i64 x.ing, .int .i64 x.eg, .int .i64 x.exp, .int .i64 x.mac] 68)).cellAt c2, (Mk.alloc wE (Obj.cells #[.int .i64 x.nd, .int .i64 x.ing, .int .i64 x.eg, .int .i64 x.exp, .int .i64 x.mac] 68)).cellAt c3, (Mk.alloc wE (Obj.cells #[.int .i64 x.nd, .int .i64 x.ing, .int .i64 x.eg, .int .i64 x.exp, .int .i64 x.mac] 68)).cellAt c4⟩ ?_
            have hh3 := hasR_new (cell := THop.cell) (nc := 5) (by decide) wE 68 x #[.int .i64 x.nd, .int .i64 x.ing, .int .i64 x.eg, .int .i64 x.exp, .int .i64 x.mac] (fun j hj => by match j, hj with | 0, _ => rfl | 1, _ => rfl | 2, _ => rfl | 3, _ => rfl | 4, _ => rfl)
            intro wG0 mG0 hG0
            clear mE q3 k2 c0 c1 c2 c3 c4
            obtain ⟨mE, q3, k2, c0, c1, c2, c3, c4⟩ := hG0
            replace hh3 := (hh3.mk mG0 (Nat.le_refl _) (.inr (Nat.le_refl _))).mono mG0.size
            try simp only [Act.put, List.getElem_toArray, List.getElem_cons_succ, List.getElem_cons_zero, List.setIfInBounds_toArray, List.set_cons_zero, List.set_cons_succ]
            refine wpSoft.done ?_
            simp only [List.drop_succ_cons, List.drop_zero]
            have mY := mE
            have ho3 := own_keptR hown mY
            have hlo := Nat.le_trans hsz mY.size
            replace q0 := mY.cellAt q0
            replace q1 := mY.cellAt q1
            replace q2 := mY.cellAt q2
            replace r0 := mY.cellAt r0
            replace r1 := mY.cellAt r1
            replace r2 := mY.cellAt r2
            replace r3 := mY.cellAt r3
            have q3' := q3
            have fq' := fun q => (mY.frozen (b := P) (o := q) (by omega) (.inr (Nat.zero_le _))).trans (fq q)
            go_wp2_with (at_builtin; refine wpList_appR (by decide) oneHopM rfl (.tmp 56) (.tmp 62) 26 rfl (P + 1) 68 i0 _ Try.underlying26 hi0 hz0 rfl hz1 (by rw [hz2]; decide) _ ((turnP zs n).take k) k rfl ho3 _ 1 1 [x] rfl (fun h => by cases h) hh3 (by omega) hlo ?_; intro v2 w4 hown2 hgr2; have hne : ∀ q, (Value.slice A k C).ownBlock = some q → q ≠ P := fun q e => (by have := (ho3.lt q e).1; omega); have p3 := grown_cell q3' hgr2 hne; have pf := fun q => grown_frz (fq' q) (World.block_lt_of_cell? _ _ q3') hgr2 hne; obtain ⟨A2, C2, rfl, hca2, hcb2⟩ := ownsRow_sliceR2 hown2)
            have p0 := grown_cell q0 hgr2 hne
            have p1 := grown_cell q1 hgr2 hne
            have p2 := grown_cell q2 hgr2 hne
            have hne2 : ∀ (B : Nat), B < P → ∀ q, (Value.slice A k C).ownBlock = some q → q ≠ B := fun B hB q e => (by have := (ho3.lt q e).1; omega)
            replace k2 := grown_cell k2 hgr2 (hne2 _ (by omega))
            replace r0 := grown_cell r0 hgr2 (hne2 _ (by omega))
            replace r1 := grown_cell r1 hgr2 (hne2 _ (by omega))
            replace r2 := grown_cell r2 hgr2 (hne2 _ (by omega))
            replace r3 := grown_cell r3 hgr2 (hne2 _ (by omega))
            have M4 := (hM.trans mY).appR hgr2 (fun g hg => by have := (ho3.lt g hg).1; omega)
            have z4 := hgr2.size
            try simp only [noPan]
            try (go_wp2_with fail)
            go_roundw
            case rel => exact ⟨k + 1, A2, C2, by omega, congrArg (Value.int .i64) (by have := hu.out; omega), ⟨cell_set p0 _ _ (.inr (by simp)), cell_set p1 _ _ (.inr (by simp)), cell_set p2 _ _ (.inr (by simp)), World.cell?_setCell_same _ _ _ p3, fun q => frozen_set (pf q) _ _⟩, by rw [HT.out]; exact own_put hown2 _ _ (Nat.lt_succ_self _), ⟨cell_set k2 _ _ (.inl nk), cell_set r0 _ _ (.inl nr), cell_set r1 _ _ (.inl nr), cell_set r2 _ _ (.inl nr), cell_set r3 _ _ (.inl nr)⟩, M4.put _ _ hPl, by simp only [World.size_set]; omega⟩
            case measure => first | (simp [intOf]; done) | (simp [intOf]; omega)
          · obtain rfl : k = n - m := by omega
            have i3 : ¬ ((m : Int) ≤ (n : Int) - 1 - ((n - m : Nat) : Int)) := by omega
            have fR9 : ∀ q, wr.frozen? ⟨w.heap.size + 1, q, none⟩ = false := fun q => (hM.frozen (b := w.heap.size + 1) (o := q) yr (.inr (Nat.zero_le _))).trans (FRB.out q)
            have hlow := hM.size
            obtain ⟨_, _, e9, hca, hcb⟩ := ownsRow_sliceR2 hown
            cases e9
            have hO := ownsRow_ownR (by decide) hown
            have M6 := hMW
            have hc := And.intro hca hcb
            have fR7 := fR9
            have p0 := q0
            have p1 := q1
            have p2 := q2
            have p3' := q3
            have hhi : wr.heap.size ≤ wr.heap.size := Nat.le_refl _
            have w8s : wr.heap.size = wr.heap.size := rfl
            clear hown
            go_wp2_with fail
            replace r0 := World.cell?_setCell_same _ _ (.int .i64 kd) r0
            replace r1 := cell_set r1 ⟨w.heap.size + 1, 0, none⟩ (.int .i64 kd) (.inr (by simp))
            replace r2 := cell_set r2 ⟨w.heap.size + 1, 0, none⟩ (.int .i64 kd) (.inr (by simp))
            replace r3 := cell_set r3 ⟨w.heap.size + 1, 0, none⟩ (.int .i64 kd) (.inr (by simp))
            replace hO := hO.set ⟨w.heap.size + 1, 0, none⟩ (.int .i64 kd) (.inl (show w.heap.size + 1 < _ from by omega))
            replace M6 := M6.put ⟨w.heap.size + 1, 0, none⟩ (.int .i64 kd) (show w.heap.size ≤ w.heap.size + 1 from by omega)
            replace r0 := cell_set r0 ⟨w.heap.size + 1, 1, none⟩ (.int .i64 x0) (.inr (by simp))
            replace r1 := World.cell?_setCell_same _ _ (.int .i64 x0) r1
            replace r2 := cell_set r2 ⟨w.heap.size + 1, 1, none⟩ (.int .i64 x0) (.inr (by simp))
            replace r3 := cell_set r3 ⟨w.heap.size + 1, 1, none⟩ (.int .i64 x0) (.inr (by simp))
            replace hO := hO.set ⟨w.heap.size + 1, 1, none⟩ (.int .i64 x0) (.inl (show w.heap.size + 1 < _ from by omega))
            replace M6 := M6.put ⟨w.heap.size + 1, 1, none⟩ (.int .i64 x0) (show w.heap.size ≤ w.heap.size + 1 from by omega)
            replace r0 := cell_set r0 ⟨w.heap.size + 1, 2, none⟩ (.int .i64 β2) (.inr (by simp))
            replace r1 := cell_set r1 ⟨w.heap.size + 1, 2, none⟩ (.int .i64 β2) (.inr (by simp))
            replace r2 := World.cell?_setCell_same _ _ (.int .i64 β2) r2
            replace r3 := cell_set r3 ⟨w.heap.size + 1, 2, none⟩ (.int .i64 β2) (.inr (by simp))
            replace hO := hO.set ⟨w.heap.size + 1, 2, none⟩ (.int .i64 β2) (.inl (show w.heap.size + 1 < _ from by omega))
            replace M6 := M6.put ⟨w.heap.size + 1, 2, none⟩ (.int .i64 β2) (show w.heap.size ≤ w.heap.size + 1 from by omega)
            replace r0 := cell_set r0 ⟨w.heap.size + 1, 3, none⟩ (.slice A (n - m) C) (.inr (by simp))
            replace r1 := cell_set r1 ⟨w.heap.size + 1, 3, none⟩ (.slice A (n - m) C) (.inr (by simp))
            replace r2 := cell_set r2 ⟨w.heap.size + 1, 3, none⟩ (.slice A (n - m) C) (.inr (by simp))
            replace r3 := World.cell?_setCell_same _ _ (.slice A (n - m) C) r3
            replace hO := hO.set ⟨w.heap.size + 1, 3, none⟩ (.slice A (n - m) C) (.inl (show w.heap.size + 1 < _ from by omega))
            replace M6 := M6.put ⟨w.heap.size + 1, 3, none⟩ (.slice A (n - m) C) (show w.heap.size ≤ w.heap.size + 1 from by omega)
            have zF : ((((wr.setCell ⟨w.heap.size + 1, 0, none⟩ (.int .i64 kd)).setCell ⟨w.heap.size + 1, 1, none⟩ (.int .i64 x0)).setCell ⟨w.heap.size + 1, 2, none⟩ (.int .i64 β2)).setCell ⟨w.heap.size + 1, 3, none⟩ (.slice A (n - m) C)).heap.size = wr.heap.size := by simp only [World.size_set]
            generalize ((((wr.setCell ⟨w.heap.size + 1, 0, none⟩ (.int .i64 kd)).setCell ⟨w.heap.size + 1, 1, none⟩ (.int .i64 x0)).setCell ⟨w.heap.size + 1, 2, none⟩ (.int .i64 β2)).setCell ⟨w.heap.size + 1, 3, none⟩ (.slice A (n - m) C)) = WF at *
            refine bodyPost_ret (v := .agg #[.int .i64 kd, .int .i64 x0, .int .i64 β2, .slice A (n - m) C]) (by simp [results, Try.results16, go_sem, r0, r1, r2, r3]) rfl ?_
            rw [HR.out, HP.out, HBt.out]
            exact ⟨A, (n - m), C, rfl, hc, hO.wide (by omega) (by omega), M6⟩

end Go.Proofs.Ytbkbkpnpllemfaa
