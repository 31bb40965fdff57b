
/- PathRate and PathReserved of the program; the rates of the model. -/
import Derived.Test.YtldnfjpdhmjhoaaPrA
import Derived.Test.YtldnfjpdhmjhoaaWs
namespace Go.Proofs.Ytldnfjpdhmjhoaa
open Go Go.Proofs Go.RowKit Go.Shelf Go.ChangeShapes Go.WideShapes Go.ChangeAt
set_option linter.unusedVariables false
theorem implPRates (gi now : Int) (al : Option Addr) (nl cl Bl : Nat) (zs : List TReservation) (a : Option Addr) (n c B : Nat) (ps : List TPathPart) (w : World) (hl : HasReservation w Bl al nl zs) (hBl : Bl ≤ w.heap.size) (hnl : nl ≤ 1048576) (h : HasPathPart w B a n ps) (hB : B ≤ w.heap.size) (hs : szPathPart ps n ≤ 1048576) :
    Calls Try.prog 35 #[.slice al nl cl, .int .i64 gi, .agg #[.slice a n c], .int .i64 now] w fun e w' => ∃ A C, e = .returned (.slice A ((filtUp leaves (pathSt ps n) (pathSt ps n).length).map (fun y : TStep => rrFrom zs gi y.nd y.eg now nl nl)).length C) ∧ Has .i64 w' w'.heap.size A ((filtUp leaves (pathSt ps n) (pathSt ps n).length).map (fun y : TStep => rrFrom zs gi y.nd y.eg now nl nl)).length ((filtUp leaves (pathSt ps n) (pathSt ps n).length).map (fun y : TStep => rrFrom zs gi y.nd y.eg now nl nl)) ∧ Mk0 w w' := by
  refine (callsIn_wide.1 (prates_in gi now al nl cl Bl zs a n c B ps w hl hBl hnl h hB hs)).mono ?_
  rintro e w' ⟨v, rfl, ho, hb⟩
  obtain ⟨A9, C9, rfl, _, _⟩ := ownsRow_sliceR2 ho
  exact ⟨A9, C9, rfl, (ownsRow_own ho).has, Mk.of_below hb⟩
theorem implAvail (gi now : Int) (al : Option Addr) (nl cl Bl : Nat) (zs : List TReservation) (a : Option Addr) (n c B : Nat) (ps : List TPathPart) (w : World) (hl : HasReservation w Bl al nl zs) (hBl : Bl ≤ w.heap.size) (hnl : nl ≤ 1048576) (h : HasPathPart w B a n ps) (hB : B ≤ w.heap.size) (hs : szPathPart ps n ≤ 1048576) :
    Calls Try.prog 24 #[.slice al nl cl, .agg #[.slice a n c], .int .i64 gi, .int .i64 now] w fun e w' => e = .returned (.int .i64 (leastUp (nthI ((filtUp leaves (pathSt ps n) (pathSt ps n).length).map (fun y : TStep => frV (wrap64 (gi - rateUp zs y.nd y.eg now nl))))) ((filtUp leaves (pathSt ps n) (pathSt ps n).length).map (fun y : TStep => frV (wrap64 (gi - rateUp zs y.nd y.eg now nl)))).length)) ∧ Mk0 w w' := by
  refine (callsIn_wide.1 (avail_in gi now al nl cl Bl zs a n c B ps w hl hBl hnl h hB hs)).mono ?_
  rintro e w' ⟨rfl, hb⟩
  exact ⟨rfl, Mk.of_below hb⟩
/-- Some step leaves, and each that does has a rate. -/
def allRated (L : List Int) : Bool := decide (0 < L.length) && !inUp (nthI L) 0 L.length
set_option maxRecDepth 100000 in
set_option maxHeartbeats 4000000 in
theorem implPRate (gi now : Int) (al : Option Addr) (nl cl Bl : Nat) (zs : List TReservation) (a : Option Addr) (n c B : Nat) (ps : List TPathPart) (w : World) (hl : HasReservation w Bl al nl zs) (hBl : Bl ≤ w.heap.size) (hnl : nl ≤ 1048576) (h : HasPathPart w B a n ps) (hB : B ≤ w.heap.size) (hs : szPathPart ps n ≤ 1048576) :
    Calls Try.prog 22 #[.slice al nl cl, .int .i64 gi, .agg #[.slice a n c], .int .i64 now] w fun e w' => e = .returned (.int .i64 (leastUp (nthI ((filtUp leaves (pathSt ps n) (pathSt ps n).length).map (fun y : TStep => rrFrom zs gi y.nd y.eg now nl nl))) ((filtUp leaves (pathSt ps n) (pathSt ps n).length).map (fun y : TStep => rrFrom zs gi y.nd y.eg now nl nl)).length)) ∧ Mk0 w w' := by
  have M0 := Mk.alloc w (Obj.cells #[Value.slice a n c] 30)
  have hub := filtUp_le leaves (pathSt ps n) (pathSt ps n).length
  have hlenR := Nat.le_trans (pathSt_le ps n) hs
  obtain ⟨LR, hLR⟩ : ∃ L, Hid (L = ((filtUp leaves (pathSt ps n) (pathSt ps n).length).map (fun y : TStep => rrFrom zs gi y.nd y.eg now nl nl))) := ⟨_, Lib.hid rfl⟩
  have hlenL : LR.length ≤ 1048576 := by rw [hLR.out, List.length_map]; omega
  rw [← hLR.out]
  go_enter Try.func22, Try.ntmps22
  go_wp2_with fail
  refine (implPRates gi now al nl cl Bl zs a n c B ps _ (hl.mk M0 hBl (.inr (Nat.le_refl _))) (Nat.le_trans hBl M0.size) hnl (h.mk M0 hB (.inr (Nat.le_refl _))) (Nat.le_trans hB M0.size) hs).mono ?_
  rintro e w2 ⟨A9, C9, rfl, hH, m2⟩
  rw [← hLR.out] at hH ⊢
  go_wp2_with fail
  refine (leastOZ _ _ _ _ _ w2 hH (Nat.le_refl _) hlenL).mono ?_
  rintro e w' ⟨rfl, rfl⟩
  go_wp2_with fail
  go_ret
  exact ⟨rfl, M0.trans m2⟩

set_option maxRecDepth 100000 in
set_option maxHeartbeats 4000000 in
theorem implPResd (gi now : Int) (al : Option Addr) (nl cl Bl : Nat) (zs : List TReservation) (a : Option Addr) (n c B : Nat) (ps : List TPathPart) (w : World) (hl : HasReservation w Bl al nl zs) (hBl : Bl ≤ w.heap.size) (hnl : nl ≤ 1048576) (h : HasPathPart w B a n ps) (hB : B ≤ w.heap.size) (hs : szPathPart ps n ≤ 1048576) :
    Calls Try.prog 19 #[.slice al nl cl, .int .i64 gi, .agg #[.slice a n c], .int .i64 now] w fun e w' => e = .returned (.bool (allRated ((filtUp leaves (pathSt ps n) (pathSt ps n).length).map (fun y : TStep => rrFrom zs gi y.nd y.eg now nl nl)))) ∧ Mk0 w w' := by
  have M0 := Mk.alloc w (Obj.cells #[Value.slice a n c] 30)
  have hub := filtUp_le leaves (pathSt ps n) (pathSt ps n).length
  have hlenR := Nat.le_trans (pathSt_le ps n) hs
  obtain ⟨LR, hLR⟩ : ∃ L, Hid (L = ((filtUp leaves (pathSt ps n) (pathSt ps n).length).map (fun y : TStep => rrFrom zs gi y.nd y.eg now nl nl))) := ⟨_, Lib.hid rfl⟩
  have hlenL : LR.length ≤ 1048576 := by rw [hLR.out, List.length_map]; omega
  rw [← hLR.out]
  go_enter Try.func19, Try.ntmps19
  go_wp2_with fail
  refine (implPRates gi now al nl cl Bl zs a n c B ps _ (hl.mk M0 hBl (.inr (Nat.le_refl _))) (Nat.le_trans hBl M0.size) hnl (h.mk M0 hB (.inr (Nat.le_refl _))) (Nat.le_trans hB M0.size) hs).mono ?_
  rintro e w2 ⟨A9, C9, rfl, hH, m2⟩
  rw [← hLR.out] at hH ⊢
  obtain ⟨N9, hN9⟩ : ∃ N, Hid (N = LR.length) := ⟨_, Lib.hid rfl⟩
  rw [← hN9.out] at hH hlenL ⊢
  by_cases h0 : N9 = 0
  · have e0 : decide ((0 : Int) < (N9 : Int)) = false := by simp; omega
    have e0' : decide (0 < N9) = false := by simp; omega
    have HE := Lib.hid (show allRated LR = false by unfold allRated; rw [← hN9.out, e0']; rfl)
    go_wp2_with fail
    go_ret
    exact ⟨retB HE.out.symm, M0.trans m2⟩
  · have e0 : decide ((0 : Int) < (N9 : Int)) = true := by simp; omega
    have e0' : decide (0 < N9) = true := by simp; omega
    have KC := contI 0 A9 N9 C9 w2.heap.size LR w2 hH (by omega)
    obtain ⟨V, hV⟩ : ∃ V, Hid (V = inUp (nthI LR) 0 N9) := ⟨_, Lib.hid rfl⟩
    rw [← hV.out] at KC
    have HE := Lib.hid (show allRated LR = !V by unfold allRated; rw [← hN9.out, e0', ← hV.out]; rfl)
    go_wp2_with fail
    refine KC.mono ?_
    rintro e w' ⟨rfl, rfl⟩
    go_wp2_with fail
    go_ret
    exact ⟨retB HE.out.symm, M0.trans m2⟩

theorem inUp_of {f : Nat → Int} {x : Int} {k : Nat} : ∀ n, k < n → f k = x → inUp f x n = true
  | n + 1, hk, h => by
    rw [inUp]
    by_cases e : k = n
    · subst e; simp [h]
    · rw [inUp_of n (by omega) h]; simp
theorem inUp_no {f : Nat → Int} {x : Int} : ∀ n, (∀ j, j < n → f j ≠ x) → inUp f x n = false
  | 0, _ => rfl
  | n + 1, h => by
    rw [inUp, inUp_no n (fun j hj => h j (by omega))]
    simpa using h n (by omega)
theorem nthI_map {L : List TStep} {k : Nat} (f : TStep → Int) (d : TStep) (h : k < L.length) : nthI (L.map f) k = f (L.getD k d) := by
  unfold nthI
  simp [List.getD_eq_getElem?_getD, h]
theorem rated_no {L : List Int} {k : Nat} (hk : k < L.length) (h : nthI L k = 0) : allRated L = false := by
  unfold allRated
  rw [show inUp (nthI L) 0 L.length = true from inUp_of _ hk h]
  simp
theorem rated_yes {L : List Int} (h0 : 0 < L.length) (h : ∀ j, j < L.length → nthI L j ≠ 0) : allRated L = true := by
  unfold allRated
  rw [show inUp (nthI L) 0 L.length = false from inUp_no _ h, decide_eq_true h0]
  rfl
set_option maxRecDepth 100000 in
set_option maxHeartbeats 8000000 in
theorem specPRate (gi now : Int) (al : Option Addr) (nl cl Bl : Nat) (zs : List TReservation) (a : Option Addr) (n c B : Nat) (ps : List TPathPart) (w : World) (hl : HasReservation w Bl al nl zs) (hBl : Bl ≤ w.heap.size) (hnl : nl ≤ 1048576) (h : HasPathPart w B a n ps) (hB : B ≤ w.heap.size) (hs : szPathPart ps n ≤ 1048576) :
    Calls Try.prog 21 #[.slice al nl cl, .int .i64 gi, .agg #[.slice a n c], .int .i64 now] w fun e w' => e = .returned (.int .i64 (leastUp (nthI ((filtUp leaves (pathSt ps n) (pathSt ps n).length).map (fun y : TStep => rrFrom zs gi y.nd y.eg now nl nl))) ((filtUp leaves (pathSt ps n) (pathSt ps n).length).map (fun y : TStep => rrFrom zs gi y.nd y.eg now nl nl)).length)) ∧ Mk0 w w' := by
  have M0 := Mk.alloc w (Obj.cells #[Value.slice a n c] 30)
  have hub := filtUp_le leaves (pathSt ps n) (pathSt ps n).length
  have hlenR := Nat.le_trans (pathSt_le ps n) hs
  obtain ⟨LS, hLS⟩ : ∃ L, Hid (L = (filtUp leaves (pathSt ps n) (pathSt ps n).length)) := ⟨_, Lib.hid rfl⟩
  have hlenL : LS.length ≤ 1048576 := by rw [hLS.out]; omega
  rw [← hLS.out]
  go_enter Try.func21, Try.ntmps21
  go_wp2_with fail
  refine (specEgress a n c B ps _ (h.mk M0 hB (.inr (Nat.le_refl _))) (Nat.le_trans hB M0.size) hs).mono ?_
  rintro e w2 ⟨A, N, C, rfl, hcc, hO, m2⟩
  rw [← hLS.out] at hO
  have hNl := hO.1
  have hH := hO.has
  have MW := M0.trans m2
  clear hO hcc M0 m2
  obtain ⟨FF, hFF⟩ : ∃ L, Hid (L = nthI (LS.map (fun y : TStep => rrFrom zs gi y.nd y.eg now nl nl))) := ⟨_, Lib.hid rfl⟩
  go_wp2_with fail
  go_loopw [10, 11] (fun r i wr => ∃ k : Nat, k ≤ N ∧ i = .int .i64 (k : Int) ∧ r = .int .i64 (leastUp FF k) ∧ Mk0 w2 wr) (fun _ i _ => N - (intOf i).toNat)
  case atStart => exact ⟨0, Nat.zero_le _, rfl, rfl, Mk.refl _ _ _⟩
  case round =>
    obtain ⟨k, hk, rfl, rfl, hM⟩ := hrel
    obtain ⟨V, hV⟩ : ∃ V, Hid (V = leastUp FF k) := ⟨_, Lib.hid rfl⟩
    rw [← hV.out]
    by_cases hlt : k < N
    · have hMW := MW.trans hM
      have hlW := hl.mk hMW hBl (.inr (Nat.le_refl _))
      have hBlW := Nat.le_trans hBl hMW.size
      obtain ⟨b, off, y, rfl, hb, hy, c0, c1, c2⟩ := HasStep.at _ _ _ _ _ _ (hH.mk hM (Nat.le_refl _) (.inr (Nat.le_refl _))) hlt
      have i1 : (0 : Int) ≤ (k : Int) := by omega
      have i2 : (k : Int) < (N : Int) := by omega
      obtain ⟨R, hR⟩ : ∃ R, Hid (R = (rrFrom zs gi y.nd y.eg now nl nl)) := ⟨_, Lib.hid rfl⟩
      have HF := Lib.hid (show FF k = R by rw [hFF.out, hR.out, hy.out]; exact nthI_map _ _ (by rw [hNl]; exact hlt))
      by_cases h0 : k = 0
      · have HE := Lib.hid (show leastUp FF (k + 1) = R by rw [h0, leastUp_one, ← HF.out, h0])
        have g0 : ((k : Int) == 0) = true := by simp; omega
        clear h0
        go_wp2_with fail
        refine wp_region_wk (fun w' => Mk0 wr w' ∧ w'.cell? ⟨b, off + k * 3, none⟩ = some (.int .i64 y.nd) ∧ w'.cell? ⟨b, off + k * 3 + 2, none⟩ = some (.int .i64 y.eg)) (by kernel_rfl) (by kernel_rfl) (⟨Mk.drew1 _, c0, c2⟩) ?_
        change Wk _ _ _ _ 15 0 _
        first | (refine Wk.skip (m := 14) (k := 0) rfl (by rfl) ?_) | (refine Wk.step (m := 14) (k := 0) (v := _) rfl (by rfl) (fun wv hS => by obtain ⟨s0, s1, s2⟩ := hS; go_simp; try with_reducible rfl) ?_)
        try simp only [Act.put, List.getElem_toArray, List.getElem_cons_zero, List.setIfInBounds_toArray, List.set_cons_zero, List.set_cons_succ]
        first | (refine Wk.skip (m := 13) (k := 1) rfl (by rfl) ?_) | (refine Wk.step (m := 13) (k := 1) (v := _) rfl (by rfl) (fun wv hS => by obtain ⟨s0, s1, s2⟩ := hS; go_simp; try with_reducible rfl) ?_)
        try simp only [Act.put, List.getElem_toArray, List.getElem_cons_succ, List.getElem_cons_zero, List.setIfInBounds_toArray, List.set_cons_zero, List.set_cons_succ]
        first | (refine Wk.skip (m := 12) (k := 2) rfl (by rfl) ?_) | (refine Wk.step (m := 12) (k := 2) (v := _) rfl (by rfl) (fun wv hS => by obtain ⟨s0, s1, s2⟩ := hS; go_simp; try with_reducible rfl) ?_)
        try simp only [Act.put, List.getElem_toArray, List.getElem_cons_succ, List.getElem_cons_zero, List.setIfInBounds_toArray, List.set_cons_zero, List.set_cons_succ]
        first | (refine Wk.skip (m := 11) (k := 3) rfl (by rfl) ?_) | (refine Wk.step (m := 11) (k := 3) (v := _) rfl (by rfl) (fun wv hS => by obtain ⟨s0, s1, s2⟩ := hS; go_simp; try with_reducible rfl) ?_)
        try simp only [Act.put, List.getElem_toArray, List.getElem_cons_succ, List.getElem_cons_zero, List.setIfInBounds_toArray, List.set_cons_zero, List.set_cons_succ]
        first | (refine Wk.skip (m := 10) (k := 4) rfl (by rfl) ?_) | (refine Wk.step (m := 10) (k := 4) (v := _) rfl (by rfl) (fun wv hS => by obtain ⟨s0, s1, s2⟩ := hS; go_simp; try with_reducible rfl) ?_)
        try simp only [Act.put, List.getElem_toArray, List.getElem_cons_succ, List.getElem_cons_zero, List.setIfInBounds_toArray, List.set_cons_zero, List.set_cons_succ]
        first | (refine Wk.skip (m := 9) (k := 5) rfl (by rfl) ?_) | (refine Wk.step (m := 9) (k := 5) (v := _) rfl (by rfl) (fun wv hS => by obtain ⟨s0, s1, s2⟩ := hS; go_simp; try with_reducible rfl) ?_)
        try simp only [Act.put, List.getElem_toArray, List.getElem_cons_succ, List.getElem_cons_zero, List.setIfInBounds_toArray, List.set_cons_zero, List.set_cons_succ]
        first | (refine Wk.skip (m := 8) (k := 6) rfl (by rfl) ?_) | (refine Wk.step (m := 8) (k := 6) (v := _) rfl (by rfl) (fun wv hS => by obtain ⟨s0, s1, s2⟩ := hS; go_simp; try with_reducible rfl) ?_)
        try simp only [Act.put, List.getElem_toArray, List.getElem_cons_succ, List.getElem_cons_zero, List.setIfInBounds_toArray, List.set_cons_zero, List.set_cons_succ]
        first | (refine Wk.skip (m := 7) (k := 7) rfl (by rfl) ?_) | (refine Wk.step (m := 7) (k := 7) (v := _) rfl (by rfl) (fun wv hS => by obtain ⟨s0, s1, s2⟩ := hS; go_simp; try with_reducible rfl) ?_)
        try simp only [Act.put, List.getElem_toArray, List.getElem_cons_succ, List.getElem_cons_zero, List.setIfInBounds_toArray, List.set_cons_zero, List.set_cons_succ]
        first | (refine Wk.skip (m := 6) (k := 8) rfl (by rfl) ?_) | (refine Wk.step (m := 6) (k := 8) (v := _) rfl (by rfl) (fun wv hS => by obtain ⟨s0, s1, s2⟩ := hS; go_simp; try with_reducible rfl) ?_)
        try simp only [Act.put, List.getElem_toArray, List.getElem_cons_succ, List.getElem_cons_zero, List.setIfInBounds_toArray, List.set_cons_zero, List.set_cons_succ]
        first | (refine Wk.skip (m := 5) (k := 9) rfl (by rfl) ?_) | (refine Wk.step (m := 5) (k := 9) (v := _) rfl (by rfl) (fun wv hS => by obtain ⟨s0, s1, s2⟩ := hS; go_simp; try with_reducible rfl) ?_)
        try simp only [Act.put, List.getElem_toArray, List.getElem_cons_succ, List.getElem_cons_zero, List.setIfInBounds_toArray, List.set_cons_zero, List.set_cons_succ]
        first | (refine Wk.skip (m := 4) (k := 10) rfl (by rfl) ?_) | (refine Wk.step (m := 4) (k := 10) (v := _) rfl (by rfl) (fun wv hS => by obtain ⟨s0, s1, s2⟩ := hS; go_simp; try with_reducible rfl) ?_)
        try simp only [Act.put, List.getElem_toArray, List.getElem_cons_succ, List.getElem_cons_zero, List.setIfInBounds_toArray, List.set_cons_zero, List.set_cons_succ]
        first | (refine Wk.skip (m := 3) (k := 11) rfl (by rfl) ?_) | (refine Wk.step (m := 3) (k := 11) (v := _) rfl (by rfl) (fun wv hS => by obtain ⟨s0, s1, s2⟩ := hS; go_simp; try with_reducible rfl) ?_)
        try simp only [Act.put, List.getElem_toArray, List.getElem_cons_succ, List.getElem_cons_zero, List.setIfInBounds_toArray, List.set_cons_zero, List.set_cons_succ]
        first | (refine Wk.skip (m := 2) (k := 12) rfl (by rfl) ?_) | (refine Wk.step (m := 2) (k := 12) (v := _) rfl (by rfl) (fun wv hS => by obtain ⟨s0, s1, s2⟩ := hS; go_simp; try with_reducible rfl) ?_)
        try simp only [Act.put, List.getElem_toArray, List.getElem_cons_succ, List.getElem_cons_zero, List.setIfInBounds_toArray, List.set_cons_zero, List.set_cons_succ]
        refine Wk.call (m := 1) (k := 13) (v := .int .i64 R) _ _ rfl (by rfl) (fun wv hS => by obtain ⟨s0, s1, s2⟩ := hS; go_simp; first | done | exact ⟨rfl, rfl⟩ | with_reducible rfl) (fun wv hS => ?_) ?_; · obtain ⟨s0, s1, s2⟩ := hS; refine (specRRate gi y.nd y.eg now al nl cl Bl zs wv (hlW.mk s0 hBlW (.inr (Nat.le_refl _))) (Nat.le_trans hBlW s0.size) hnl).mono ?_; rintro e w' ⟨he, mm⟩; exact ⟨by rw [he, hR.out], ⟨s0.trans mm, mm.cellAt s1, mm.cellAt s2⟩⟩
        try simp only [Act.put, List.getElem_toArray, List.getElem_cons_succ, List.getElem_cons_zero, List.setIfInBounds_toArray, List.set_cons_zero, List.set_cons_succ]
        first | (refine Wk.skip (m := 0) (k := 14) rfl (by rfl) ?_) | (refine Wk.step (m := 0) (k := 14) (v := _) rfl (by rfl) (fun wv hS => by obtain ⟨s0, s1, s2⟩ := hS; go_simp; try with_reducible rfl) ?_)
        try simp only [Act.put, List.getElem_toArray, List.getElem_cons_succ, List.getElem_cons_zero, List.setIfInBounds_toArray, List.set_cons_zero, List.set_cons_succ]
        refine Wk.done fun wE hE => ?_
        clear c0 c2
        obtain ⟨mE, c0, c2⟩ := hE
        go_wp2_with fail
        go_roundw
        case rel => exact ⟨k + 1, by omega, by go_num, congrArg (Value.int .i64) (by rw [HE.out]), hM.trans mE⟩
        case measure => simp [intOf]; omega
      · have g0 : ((k : Int) == 0) = false := by simp; omega
        by_cases h1 : R < V
        · have HE := Lib.hid (show leastUp FF (k + 1) = R by rw [leastUp_lt h0 (by rw [HF.out, ← hV.out]; exact h1), HF.out])
          clear h0
          have g1 : decide (R < V) = true := by simpa using h1
          go_wp2_with fail
          refine wp_region_wk (fun w' => Mk0 wr w' ∧ w'.cell? ⟨b, off + k * 3, none⟩ = some (.int .i64 y.nd) ∧ w'.cell? ⟨b, off + k * 3 + 2, none⟩ = some (.int .i64 y.eg)) (by kernel_rfl) (by kernel_rfl) (⟨Mk.drew1 _, c0, c2⟩) ?_
          change Wk _ _ _ _ 15 0 _
          first | (refine Wk.skip (m := 14) (k := 0) rfl (by rfl) ?_) | (refine Wk.step (m := 14) (k := 0) (v := _) rfl (by rfl) (fun wv hS => by obtain ⟨s0, s1, s2⟩ := hS; go_simp; try with_reducible rfl) ?_)
          try simp only [Act.put, List.getElem_toArray, List.getElem_cons_zero, List.setIfInBounds_toArray, List.set_cons_zero, List.set_cons_succ]
          first | (refine Wk.skip (m := 13) (k := 1) rfl (by rfl) ?_) | (refine Wk.step (m := 13) (k := 1) (v := _) rfl (by rfl) (fun wv hS => by obtain ⟨s0, s1, s2⟩ := hS; go_simp; try with_reducible rfl) ?_)
          try simp only [Act.put, List.getElem_toArray, List.getElem_cons_succ, List.getElem_cons_zero, List.setIfInBounds_toArray, List.set_cons_zero, List.set_cons_succ]
          first | (refine Wk.skip (m := 12) (k := 2) rfl (by rfl) ?_) | (refine Wk.step (m := 12) (k := 2) (v := _) rfl (by rfl) (fun wv hS => by obtain ⟨s0, s1, s2⟩ := hS; go_simp; try with_reducible rfl) ?_)
          try simp only [Act.put, List.getElem_toArray, List.getElem_cons_succ, List.getElem_cons_zero, List.setIfInBounds_toArray, List.set_cons_zero, List.set_cons_succ]
          first | (refine Wk.skip (m := 11) (k := 3) rfl (by rfl) ?_) | (refine Wk.step (m := 11) (k := 3) (v := _) rfl (by rfl) (fun wv hS => by obtain ⟨s0, s1, s2⟩ := hS; go_simp; try with_reducible rfl) ?_)
          try simp only [Act.put, List.getElem_toArray, List.getElem_cons_succ, List.getElem_cons_zero, List.setIfInBounds_toArray, List.set_cons_zero, List.set_cons_succ]
          first | (refine Wk.skip (m := 10) (k := 4) rfl (by rfl) ?_) | (refine Wk.step (m := 10) (k := 4) (v := _) rfl (by rfl) (fun wv hS => by obtain ⟨s0, s1, s2⟩ := hS; go_simp; try with_reducible rfl) ?_)
          try simp only [Act.put, List.getElem_toArray, List.getElem_cons_succ, List.getElem_cons_zero, List.setIfInBounds_toArray, List.set_cons_zero, List.set_cons_succ]
          first | (refine Wk.skip (m := 9) (k := 5) rfl (by rfl) ?_) | (refine Wk.step (m := 9) (k := 5) (v := _) rfl (by rfl) (fun wv hS => by obtain ⟨s0, s1, s2⟩ := hS; go_simp; try with_reducible rfl) ?_)
          try simp only [Act.put, List.getElem_toArray, List.getElem_cons_succ, List.getElem_cons_zero, List.setIfInBounds_toArray, List.set_cons_zero, List.set_cons_succ]
          first | (refine Wk.skip (m := 8) (k := 6) rfl (by rfl) ?_) | (refine Wk.step (m := 8) (k := 6) (v := _) rfl (by rfl) (fun wv hS => by obtain ⟨s0, s1, s2⟩ := hS; go_simp; try with_reducible rfl) ?_)
          try simp only [Act.put, List.getElem_toArray, List.getElem_cons_succ, List.getElem_cons_zero, List.setIfInBounds_toArray, List.set_cons_zero, List.set_cons_succ]
          first | (refine Wk.skip (m := 7) (k := 7) rfl (by rfl) ?_) | (refine Wk.step (m := 7) (k := 7) (v := _) rfl (by rfl) (fun wv hS => by obtain ⟨s0, s1, s2⟩ := hS; go_simp; try with_reducible rfl) ?_)
          try simp only [Act.put, List.getElem_toArray, List.getElem_cons_succ, List.getElem_cons_zero, List.setIfInBounds_toArray, List.set_cons_zero, List.set_cons_succ]
          first | (refine Wk.skip (m := 6) (k := 8) rfl (by rfl) ?_) | (refine Wk.step (m := 6) (k := 8) (v := _) rfl (by rfl) (fun wv hS => by obtain ⟨s0, s1, s2⟩ := hS; go_simp; try with_reducible rfl) ?_)
          try simp only [Act.put, List.getElem_toArray, List.getElem_cons_succ, List.getElem_cons_zero, List.setIfInBounds_toArray, List.set_cons_zero, List.set_cons_succ]
          first | (refine Wk.skip (m := 5) (k := 9) rfl (by rfl) ?_) | (refine Wk.step (m := 5) (k := 9) (v := _) rfl (by rfl) (fun wv hS => by obtain ⟨s0, s1, s2⟩ := hS; go_simp; try with_reducible rfl) ?_)
          try simp only [Act.put, List.getElem_toArray, List.getElem_cons_succ, List.getElem_cons_zero, List.setIfInBounds_toArray, List.set_cons_zero, List.set_cons_succ]
          first | (refine Wk.skip (m := 4) (k := 10) rfl (by rfl) ?_) | (refine Wk.step (m := 4) (k := 10) (v := _) rfl (by rfl) (fun wv hS => by obtain ⟨s0, s1, s2⟩ := hS; go_simp; try with_reducible rfl) ?_)
          try simp only [Act.put, List.getElem_toArray, List.getElem_cons_succ, List.getElem_cons_zero, List.setIfInBounds_toArray, List.set_cons_zero, List.set_cons_succ]
          first | (refine Wk.skip (m := 3) (k := 11) rfl (by rfl) ?_) | (refine Wk.step (m := 3) (k := 11) (v := _) rfl (by rfl) (fun wv hS => by obtain ⟨s0, s1, s2⟩ := hS; go_simp; try with_reducible rfl) ?_)
          try simp only [Act.put, List.getElem_toArray, List.getElem_cons_succ, List.getElem_cons_zero, List.setIfInBounds_toArray, List.set_cons_zero, List.set_cons_succ]
          first | (refine Wk.skip (m := 2) (k := 12) rfl (by rfl) ?_) | (refine Wk.step (m := 2) (k := 12) (v := _) rfl (by rfl) (fun wv hS => by obtain ⟨s0, s1, s2⟩ := hS; go_simp; try with_reducible rfl) ?_)
          try simp only [Act.put, List.getElem_toArray, List.getElem_cons_succ, List.getElem_cons_zero, List.setIfInBounds_toArray, List.set_cons_zero, List.set_cons_succ]
          refine Wk.call (m := 1) (k := 13) (v := .int .i64 R) _ _ rfl (by rfl) (fun wv hS => by obtain ⟨s0, s1, s2⟩ := hS; go_simp; first | done | exact ⟨rfl, rfl⟩ | with_reducible rfl) (fun wv hS => ?_) ?_; · obtain ⟨s0, s1, s2⟩ := hS; refine (specRRate gi y.nd y.eg now al nl cl Bl zs wv (hlW.mk s0 hBlW (.inr (Nat.le_refl _))) (Nat.le_trans hBlW s0.size) hnl).mono ?_; rintro e w' ⟨he, mm⟩; exact ⟨by rw [he, hR.out], ⟨s0.trans mm, mm.cellAt s1, mm.cellAt s2⟩⟩
          try simp only [Act.put, List.getElem_toArray, List.getElem_cons_succ, List.getElem_cons_zero, List.setIfInBounds_toArray, List.set_cons_zero, List.set_cons_succ]
          first | (refine Wk.skip (m := 0) (k := 14) rfl (by rfl) ?_) | (refine Wk.step (m := 0) (k := 14) (v := _) rfl (by rfl) (fun wv hS => by obtain ⟨s0, s1, s2⟩ := hS; go_simp; try with_reducible rfl) ?_)
          try simp only [Act.put, List.getElem_toArray, List.getElem_cons_succ, List.getElem_cons_zero, List.setIfInBounds_toArray, List.set_cons_zero, List.set_cons_succ]
          refine Wk.done fun wE hE => ?_
          clear c0 c2
          obtain ⟨mE, c0, c2⟩ := hE
          go_wp2_with fail
          go_roundw
          case rel => exact ⟨k + 1, by omega, by go_num, congrArg (Value.int .i64) (by rw [HE.out]), hM.trans mE⟩
          case measure => simp [intOf]; omega
        · have HE := Lib.hid (show leastUp FF (k + 1) = V by rw [leastUp_ge h0 (by rw [HF.out, ← hV.out]; exact h1), ← hV.out])
          clear h0
          have g1 : decide (R < V) = false := by simpa using h1
          go_wp2_with fail
          refine wp_region_wk (fun w' => Mk0 wr w' ∧ w'.cell? ⟨b, off + k * 3, none⟩ = some (.int .i64 y.nd) ∧ w'.cell? ⟨b, off + k * 3 + 2, none⟩ = some (.int .i64 y.eg)) (by kernel_rfl) (by kernel_rfl) (⟨Mk.drew1 _, c0, c2⟩) ?_
          change Wk _ _ _ _ 15 0 _
          first | (refine Wk.skip (m := 14) (k := 0) rfl (by rfl) ?_) | (refine Wk.step (m := 14) (k := 0) (v := _) rfl (by rfl) (fun wv hS => by obtain ⟨s0, s1, s2⟩ := hS; go_simp; try with_reducible rfl) ?_)
          try simp only [Act.put, List.getElem_toArray, List.getElem_cons_zero, List.setIfInBounds_toArray, List.set_cons_zero, List.set_cons_succ]
          first | (refine Wk.skip (m := 13) (k := 1) rfl (by rfl) ?_) | (refine Wk.step (m := 13) (k := 1) (v := _) rfl (by rfl) (fun wv hS => by obtain ⟨s0, s1, s2⟩ := hS; go_simp; try with_reducible rfl) ?_)
          try simp only [Act.put, List.getElem_toArray, List.getElem_cons_succ, List.getElem_cons_zero, List.setIfInBounds_toArray, List.set_cons_zero, List.set_cons_succ]
          first | (refine Wk.skip (m := 12) (k := 2) rfl (by rfl) ?_) | (refine Wk.step (m := 12) (k := 2) (v := _) rfl (by rfl) (fun wv hS => by obtain ⟨s0, s1, s2⟩ := hS; go_simp; try with_reducible rfl) ?_)
          try simp only [Act.put, List.getElem_toArray, List.getElem_cons_succ, List.getElem_cons_zero, List.setIfInBounds_toArray, List.set_cons_zero, List.set_cons_succ]
          first | (refine Wk.skip (m := 11) (k := 3) rfl (by rfl) ?_) | (refine Wk.step (m := 11) (k := 3) (v := _) rfl (by rfl) (fun wv hS => by obtain ⟨s0, s1, s2⟩ := hS; go_simp; try with_reducible rfl) ?_)
          try simp only [Act.put, List.getElem_toArray, List.getElem_cons_succ, List.getElem_cons_zero, List.setIfInBounds_toArray, List.set_cons_zero, List.set_cons_succ]
          first | (refine Wk.skip (m := 10) (k := 4) rfl (by rfl) ?_) | (refine Wk.step (m := 10) (k := 4) (v := _) rfl (by rfl) (fun wv hS => by obtain ⟨s0, s1, s2⟩ := hS; go_simp; try with_reducible rfl) ?_)
          try simp only [Act.put, List.getElem_toArray, List.getElem_cons_succ, List.getElem_cons_zero, List.setIfInBounds_toArray, List.set_cons_zero, List.set_cons_succ]
          first | (refine Wk.skip (m := 9) (k := 5) rfl (by rfl) ?_) | (refine Wk.step (m := 9) (k := 5) (v := _) rfl (by rfl) (fun wv hS => by obtain ⟨s0, s1, s2⟩ := hS; go_simp; try with_reducible rfl) ?_)
          try simp only [Act.put, List.getElem_toArray, List.getElem_cons_succ, List.getElem_cons_zero, List.setIfInBounds_toArray, List.set_cons_zero, List.set_cons_succ]
          first | (refine Wk.skip (m := 8) (k := 6) rfl (by rfl) ?_) | (refine Wk.step (m := 8) (k := 6) (v := _) rfl (by rfl) (fun wv hS => by obtain ⟨s0, s1, s2⟩ := hS; go_simp; try with_reducible rfl) ?_)
          try simp only [Act.put, List.getElem_toArray, List.getElem_cons_succ, List.getElem_cons_zero, List.setIfInBounds_toArray, List.set_cons_zero, List.set_cons_succ]
          first | (refine Wk.skip (m := 7) (k := 7) rfl (by rfl) ?_) | (refine Wk.step (m := 7) (k := 7) (v := _) rfl (by rfl) (fun wv hS => by obtain ⟨s0, s1, s2⟩ := hS; go_simp; try with_reducible rfl) ?_)
          try simp only [Act.put, List.getElem_toArray, List.getElem_cons_succ, List.getElem_cons_zero, List.setIfInBounds_toArray, List.set_cons_zero, List.set_cons_succ]
          first | (refine Wk.skip (m := 6) (k := 8) rfl (by rfl) ?_) | (refine Wk.step (m := 6) (k := 8) (v := _) rfl (by rfl) (fun wv hS => by obtain ⟨s0, s1, s2⟩ := hS; go_simp; try with_reducible rfl) ?_)
          try simp only [Act.put, List.getElem_toArray, List.getElem_cons_succ, List.getElem_cons_zero, List.setIfInBounds_toArray, List.set_cons_zero, List.set_cons_succ]
          first | (refine Wk.skip (m := 5) (k := 9) rfl (by rfl) ?_) | (refine Wk.step (m := 5) (k := 9) (v := _) rfl (by rfl) (fun wv hS => by obtain ⟨s0, s1, s2⟩ := hS; go_simp; try with_reducible rfl) ?_)
          try simp only [Act.put, List.getElem_toArray, List.getElem_cons_succ, List.getElem_cons_zero, List.setIfInBounds_toArray, List.set_cons_zero, List.set_cons_succ]
          first | (refine Wk.skip (m := 4) (k := 10) rfl (by rfl) ?_) | (refine Wk.step (m := 4) (k := 10) (v := _) rfl (by rfl) (fun wv hS => by obtain ⟨s0, s1, s2⟩ := hS; go_simp; try with_reducible rfl) ?_)
          try simp only [Act.put, List.getElem_toArray, List.getElem_cons_succ, List.getElem_cons_zero, List.setIfInBounds_toArray, List.set_cons_zero, List.set_cons_succ]
          first | (refine Wk.skip (m := 3) (k := 11) rfl (by rfl) ?_) | (refine Wk.step (m := 3) (k := 11) (v := _) rfl (by rfl) (fun wv hS => by obtain ⟨s0, s1, s2⟩ := hS; go_simp; try with_reducible rfl) ?_)
          try simp only [Act.put, List.getElem_toArray, List.getElem_cons_succ, List.getElem_cons_zero, List.setIfInBounds_toArray, List.set_cons_zero, List.set_cons_succ]
          first | (refine Wk.skip (m := 2) (k := 12) rfl (by rfl) ?_) | (refine Wk.step (m := 2) (k := 12) (v := _) rfl (by rfl) (fun wv hS => by obtain ⟨s0, s1, s2⟩ := hS; go_simp; try with_reducible rfl) ?_)
          try simp only [Act.put, List.getElem_toArray, List.getElem_cons_succ, List.getElem_cons_zero, List.setIfInBounds_toArray, List.set_cons_zero, List.set_cons_succ]
          refine Wk.call (m := 1) (k := 13) (v := .int .i64 R) _ _ rfl (by rfl) (fun wv hS => by obtain ⟨s0, s1, s2⟩ := hS; go_simp; first | done | exact ⟨rfl, rfl⟩ | with_reducible rfl) (fun wv hS => ?_) ?_; · obtain ⟨s0, s1, s2⟩ := hS; refine (specRRate gi y.nd y.eg now al nl cl Bl zs wv (hlW.mk s0 hBlW (.inr (Nat.le_refl _))) (Nat.le_trans hBlW s0.size) hnl).mono ?_; rintro e w' ⟨he, mm⟩; exact ⟨by rw [he, hR.out], ⟨s0.trans mm, mm.cellAt s1, mm.cellAt s2⟩⟩
          try simp only [Act.put, List.getElem_toArray, List.getElem_cons_succ, List.getElem_cons_zero, List.setIfInBounds_toArray, List.set_cons_zero, List.set_cons_succ]
          first | (refine Wk.skip (m := 0) (k := 14) rfl (by rfl) ?_) | (refine Wk.step (m := 0) (k := 14) (v := _) rfl (by rfl) (fun wv hS => by obtain ⟨s0, s1, s2⟩ := hS; go_simp; try with_reducible rfl) ?_)
          try simp only [Act.put, List.getElem_toArray, List.getElem_cons_succ, List.getElem_cons_zero, List.setIfInBounds_toArray, List.set_cons_zero, List.set_cons_succ]
          refine Wk.done fun wE hE => ?_
          clear c0 c2
          obtain ⟨mE, c0, c2⟩ := hE
          go_wp2_with fail
          go_roundw
          case rel => exact ⟨k + 1, by omega, by go_num, congrArg (Value.int .i64) (by rw [HE.out]), hM.trans mE⟩
          case measure => simp [intOf]; omega
    · obtain rfl : k = N := by omega
      go_wp2_with fail
      go_ret
      exact ⟨retI (by rw [hV.out, hFF.out, List.length_map, hNl]), MW.trans hM⟩

set_option maxRecDepth 100000 in
set_option maxHeartbeats 8000000 in
theorem specPResd (gi now : Int) (al : Option Addr) (nl cl Bl : Nat) (zs : List TReservation) (a : Option Addr) (n c B : Nat) (ps : List TPathPart) (w : World) (hl : HasReservation w Bl al nl zs) (hBl : Bl ≤ w.heap.size) (hnl : nl ≤ 1048576) (h : HasPathPart w B a n ps) (hB : B ≤ w.heap.size) (hs : szPathPart ps n ≤ 1048576) :
    Calls Try.prog 17 #[.slice al nl cl, .int .i64 gi, .agg #[.slice a n c], .int .i64 now] w fun e w' => e = .returned (.bool (allRated ((filtUp leaves (pathSt ps n) (pathSt ps n).length).map (fun y : TStep => rrFrom zs gi y.nd y.eg now nl nl)))) ∧ Mk0 w w' := by
  have M0 := Mk.alloc w (Obj.cells #[Value.slice a n c] 30)
  have hub := filtUp_le leaves (pathSt ps n) (pathSt ps n).length
  have hlenR := Nat.le_trans (pathSt_le ps n) hs
  obtain ⟨LS, hLS⟩ : ∃ L, Hid (L = (filtUp leaves (pathSt ps n) (pathSt ps n).length)) := ⟨_, Lib.hid rfl⟩
  have hlenL : LS.length ≤ 1048576 := by rw [hLS.out]; omega
  rw [← hLS.out]
  go_enter Try.func17, Try.ntmps17
  go_wp2_with fail
  refine (specEgress a n c B ps _ (h.mk M0 hB (.inr (Nat.le_refl _))) (Nat.le_trans hB M0.size) hs).mono ?_
  rintro e w2 ⟨A, N, C, rfl, hcc, hO, m2⟩
  rw [← hLS.out] at hO
  have hNl := hO.1
  have hH := hO.has
  have MW := M0.trans m2
  clear hO hcc M0 m2
  obtain ⟨FF, hFF⟩ : ∃ L, Hid (L = nthI (LS.map (fun y : TStep => rrFrom zs gi y.nd y.eg now nl nl))) := ⟨_, Lib.hid rfl⟩
  go_wp2_with fail
  go_loopw [8, 10] (fun r i wr => r = .bool false ∧ ∃ k : Nat, k ≤ N ∧ i = .int .i64 (k : Int) ∧ Hid (∀ j, j < k → FF j ≠ 0) ∧ Mk0 w2 wr) (fun _ i _ => N - (intOf i).toNat)
  case atStart => exact ⟨rfl, 0, Nat.zero_le _, rfl, Lib.hid (fun j hj => by omega), Mk.refl _ _ _⟩
  case round =>
    obtain ⟨rfl, k, hk, rfl, hAll, hM⟩ := hrel
    by_cases hlt : k < N
    · have hMW := MW.trans hM
      have hlW := hl.mk hMW hBl (.inr (Nat.le_refl _))
      have hBlW := Nat.le_trans hBl hMW.size
      obtain ⟨b, off, y, rfl, hb, hy, c0, c1, c2⟩ := HasStep.at _ _ _ _ _ _ (hH.mk hM (Nat.le_refl _) (.inr (Nat.le_refl _))) hlt
      have i1 : (0 : Int) ≤ (k : Int) := by omega
      have i2 : (k : Int) < (N : Int) := by omega
      obtain ⟨R, hR⟩ : ∃ R, Hid (R = (rrFrom zs gi y.nd y.eg now nl nl)) := ⟨_, Lib.hid rfl⟩
      have HF := Lib.hid (show FF k = R by rw [hFF.out, hR.out, hy.out]; exact nthI_map _ _ (by rw [hNl]; exact hlt))
      by_cases h1 : R = 0
      · have HE := Lib.hid (show allRated (LS.map (fun y : TStep => rrFrom zs gi y.nd y.eg now nl nl)) = false from rated_no (by rw [List.length_map, hNl]; exact hlt) (by rw [← hFF.out, HF.out]; exact h1))
        have g1 : (R == 0) = true := by simpa using h1
        clear h1
        go_wp2_with fail
        refine wp_region_wk (fun w' => Mk0 wr w' ∧ w'.cell? ⟨b, off + k * 3, none⟩ = some (.int .i64 y.nd) ∧ w'.cell? ⟨b, off + k * 3 + 2, none⟩ = some (.int .i64 y.eg)) (by kernel_rfl) (by kernel_rfl) (⟨Mk.drew1 _, c0, c2⟩) ?_
        change Wk _ _ _ _ 15 0 _
        first | (refine Wk.skip (m := 14) (k := 0) rfl (by rfl) ?_) | (refine Wk.step (m := 14) (k := 0) (v := _) rfl (by rfl) (fun wv hS => by obtain ⟨s0, s1, s2⟩ := hS; go_simp; try with_reducible rfl) ?_)
        try simp only [Act.put, List.getElem_toArray, List.getElem_cons_zero, List.setIfInBounds_toArray, List.set_cons_zero, List.set_cons_succ]
        first | (refine Wk.skip (m := 13) (k := 1) rfl (by rfl) ?_) | (refine Wk.step (m := 13) (k := 1) (v := _) rfl (by rfl) (fun wv hS => by obtain ⟨s0, s1, s2⟩ := hS; go_simp; try with_reducible rfl) ?_)
        try simp only [Act.put, List.getElem_toArray, List.getElem_cons_succ, List.getElem_cons_zero, List.setIfInBounds_toArray, List.set_cons_zero, List.set_cons_succ]
        first | (refine Wk.skip (m := 12) (k := 2) rfl (by rfl) ?_) | (refine Wk.step (m := 12) (k := 2) (v := _) rfl (by rfl) (fun wv hS => by obtain ⟨s0, s1, s2⟩ := hS; go_simp; try with_reducible rfl) ?_)
        try simp only [Act.put, List.getElem_toArray, List.getElem_cons_succ, List.getElem_cons_zero, List.setIfInBounds_toArray, List.set_cons_zero, List.set_cons_succ]
        first | (refine Wk.skip (m := 11) (k := 3) rfl (by rfl) ?_) | (refine Wk.step (m := 11) (k := 3) (v := _) rfl (by rfl) (fun wv hS => by obtain ⟨s0, s1, s2⟩ := hS; go_simp; try with_reducible rfl) ?_)
        try simp only [Act.put, List.getElem_toArray, List.getElem_cons_succ, List.getElem_cons_zero, List.setIfInBounds_toArray, List.set_cons_zero, List.set_cons_succ]
        first | (refine Wk.skip (m := 10) (k := 4) rfl (by rfl) ?_) | (refine Wk.step (m := 10) (k := 4) (v := _) rfl (by rfl) (fun wv hS => by obtain ⟨s0, s1, s2⟩ := hS; go_simp; try with_reducible rfl) ?_)
        try simp only [Act.put, List.getElem_toArray, List.getElem_cons_succ, List.getElem_cons_zero, List.setIfInBounds_toArray, List.set_cons_zero, List.set_cons_succ]
        first | (refine Wk.skip (m := 9) (k := 5) rfl (by rfl) ?_) | (refine Wk.step (m := 9) (k := 5) (v := _) rfl (by rfl) (fun wv hS => by obtain ⟨s0, s1, s2⟩ := hS; go_simp; try with_reducible rfl) ?_)
        try simp only [Act.put, List.getElem_toArray, List.getElem_cons_succ, List.getElem_cons_zero, List.setIfInBounds_toArray, List.set_cons_zero, List.set_cons_succ]
        first | (refine Wk.skip (m := 8) (k := 6) rfl (by rfl) ?_) | (refine Wk.step (m := 8) (k := 6) (v := _) rfl (by rfl) (fun wv hS => by obtain ⟨s0, s1, s2⟩ := hS; go_simp; try with_reducible rfl) ?_)
        try simp only [Act.put, List.getElem_toArray, List.getElem_cons_succ, List.getElem_cons_zero, List.setIfInBounds_toArray, List.set_cons_zero, List.set_cons_succ]
        first | (refine Wk.skip (m := 7) (k := 7) rfl (by rfl) ?_) | (refine Wk.step (m := 7) (k := 7) (v := _) rfl (by rfl) (fun wv hS => by obtain ⟨s0, s1, s2⟩ := hS; go_simp; try with_reducible rfl) ?_)
        try simp only [Act.put, List.getElem_toArray, List.getElem_cons_succ, List.getElem_cons_zero, List.setIfInBounds_toArray, List.set_cons_zero, List.set_cons_succ]
        first | (refine Wk.skip (m := 6) (k := 8) rfl (by rfl) ?_) | (refine Wk.step (m := 6) (k := 8) (v := _) rfl (by rfl) (fun wv hS => by obtain ⟨s0, s1, s2⟩ := hS; go_simp; try with_reducible rfl) ?_)
        try simp only [Act.put, List.getElem_toArray, List.getElem_cons_succ, List.getElem_cons_zero, List.setIfInBounds_toArray, List.set_cons_zero, List.set_cons_succ]
        first | (refine Wk.skip (m := 5) (k := 9) rfl (by rfl) ?_) | (refine Wk.step (m := 5) (k := 9) (v := _) rfl (by rfl) (fun wv hS => by obtain ⟨s0, s1, s2⟩ := hS; go_simp; try with_reducible rfl) ?_)
        try simp only [Act.put, List.getElem_toArray, List.getElem_cons_succ, List.getElem_cons_zero, List.setIfInBounds_toArray, List.set_cons_zero, List.set_cons_succ]
        first | (refine Wk.skip (m := 4) (k := 10) rfl (by rfl) ?_) | (refine Wk.step (m := 4) (k := 10) (v := _) rfl (by rfl) (fun wv hS => by obtain ⟨s0, s1, s2⟩ := hS; go_simp; try with_reducible rfl) ?_)
        try simp only [Act.put, List.getElem_toArray, List.getElem_cons_succ, List.getElem_cons_zero, List.setIfInBounds_toArray, List.set_cons_zero, List.set_cons_succ]
        first | (refine Wk.skip (m := 3) (k := 11) rfl (by rfl) ?_) | (refine Wk.step (m := 3) (k := 11) (v := _) rfl (by rfl) (fun wv hS => by obtain ⟨s0, s1, s2⟩ := hS; go_simp; try with_reducible rfl) ?_)
        try simp only [Act.put, List.getElem_toArray, List.getElem_cons_succ, List.getElem_cons_zero, List.setIfInBounds_toArray, List.set_cons_zero, List.set_cons_succ]
        first | (refine Wk.skip (m := 2) (k := 12) rfl (by rfl) ?_) | (refine Wk.step (m := 2) (k := 12) (v := _) rfl (by rfl) (fun wv hS => by obtain ⟨s0, s1, s2⟩ := hS; go_simp; try with_reducible rfl) ?_)
        try simp only [Act.put, List.getElem_toArray, List.getElem_cons_succ, List.getElem_cons_zero, List.setIfInBounds_toArray, List.set_cons_zero, List.set_cons_succ]
        refine Wk.call (m := 1) (k := 13) (v := .int .i64 R) _ _ rfl (by rfl) (fun wv hS => by obtain ⟨s0, s1, s2⟩ := hS; go_simp; first | done | exact ⟨rfl, rfl⟩ | with_reducible rfl) (fun wv hS => ?_) ?_; · obtain ⟨s0, s1, s2⟩ := hS; refine (specRRate gi y.nd y.eg now al nl cl Bl zs wv (hlW.mk s0 hBlW (.inr (Nat.le_refl _))) (Nat.le_trans hBlW s0.size) hnl).mono ?_; rintro e w' ⟨he, mm⟩; exact ⟨by rw [he, hR.out], ⟨s0.trans mm, mm.cellAt s1, mm.cellAt s2⟩⟩
        try simp only [Act.put, List.getElem_toArray, List.getElem_cons_succ, List.getElem_cons_zero, List.setIfInBounds_toArray, List.set_cons_zero, List.set_cons_succ]
        first | (refine Wk.skip (m := 0) (k := 14) rfl (by rfl) ?_) | (refine Wk.step (m := 0) (k := 14) (v := _) rfl (by rfl) (fun wv hS => by obtain ⟨s0, s1, s2⟩ := hS; go_simp; try with_reducible rfl) ?_)
        try simp only [Act.put, List.getElem_toArray, List.getElem_cons_succ, List.getElem_cons_zero, List.setIfInBounds_toArray, List.set_cons_zero, List.set_cons_succ]
        refine Wk.done fun wE hE => ?_
        clear c0 c2
        obtain ⟨mE, c0, c2⟩ := hE
        go_wp2_with fail
        go_ret
        exact ⟨retB HE.out.symm, MW.trans (hM.trans mE)⟩
      · have HA := Lib.hid (show ∀ j, j < k + 1 → FF j ≠ 0 from fun j hj => (Nat.lt_succ_iff_lt_or_eq.1 hj).elim (hAll.out j) (fun e => by rw [e, HF.out]; exact h1))
        have g1 : (R == 0) = false := by simpa using h1
        clear h1
        go_wp2_with fail
        refine wp_region_wk (fun w' => Mk0 wr w' ∧ w'.cell? ⟨b, off + k * 3, none⟩ = some (.int .i64 y.nd) ∧ w'.cell? ⟨b, off + k * 3 + 2, none⟩ = some (.int .i64 y.eg)) (by kernel_rfl) (by kernel_rfl) (⟨Mk.drew1 _, c0, c2⟩) ?_
        change Wk _ _ _ _ 15 0 _
        first | (refine Wk.skip (m := 14) (k := 0) rfl (by rfl) ?_) | (refine Wk.step (m := 14) (k := 0) (v := _) rfl (by rfl) (fun wv hS => by obtain ⟨s0, s1, s2⟩ := hS; go_simp; try with_reducible rfl) ?_)
        try simp only [Act.put, List.getElem_toArray, List.getElem_cons_zero, List.setIfInBounds_toArray, List.set_cons_zero, List.set_cons_succ]
        first | (refine Wk.skip (m := 13) (k := 1) rfl (by rfl) ?_) | (refine Wk.step (m := 13) (k := 1) (v := _) rfl (by rfl) (fun wv hS => by obtain ⟨s0, s1, s2⟩ := hS; go_simp; try with_reducible rfl) ?_)
        try simp only [Act.put, List.getElem_toArray, List.getElem_cons_succ, List.getElem_cons_zero, List.setIfInBounds_toArray, List.set_cons_zero, List.set_cons_succ]
        first | (refine Wk.skip (m := 12) (k := 2) rfl (by rfl) ?_) | (refine Wk.step (m := 12) (k := 2) (v := _) rfl (by rfl) (fun wv hS => by obtain ⟨s0, s1, s2⟩ := hS; go_simp; try with_reducible rfl) ?_)
        try simp only [Act.put, List.getElem_toArray, List.getElem_cons_succ, List.getElem_cons_zero, List.setIfInBounds_toArray, List.set_cons_zero, List.set_cons_succ]
        first | (refine Wk.skip (m := 11) (k := 3) rfl (by rfl) ?_) | (refine Wk.step (m := 11) (k := 3) (v := _) rfl (by rfl) (fun wv hS => by obtain ⟨s0, s1, s2⟩ := hS; go_simp; try with_reducible rfl) ?_)
        try simp only [Act.put, List.getElem_toArray, List.getElem_cons_succ, List.getElem_cons_zero, List.setIfInBounds_toArray, List.set_cons_zero, List.set_cons_succ]
        first | (refine Wk.skip (m := 10) (k := 4) rfl (by rfl) ?_) | (refine Wk.step (m := 10) (k := 4) (v := _) rfl (by rfl) (fun wv hS => by obtain ⟨s0, s1, s2⟩ := hS; go_simp; try with_reducible rfl) ?_)
        try simp only [Act.put, List.getElem_toArray, List.getElem_cons_succ, List.getElem_cons_zero, List.setIfInBounds_toArray, List.set_cons_zero, List.set_cons_succ]
        first | (refine Wk.skip (m := 9) (k := 5) rfl (by rfl) ?_) | (refine Wk.step (m := 9) (k := 5) (v := _) rfl (by rfl) (fun wv hS => by obtain ⟨s0, s1, s2⟩ := hS; go_simp; try with_reducible rfl) ?_)
        try simp only [Act.put, List.getElem_toArray, List.getElem_cons_succ, List.getElem_cons_zero, List.setIfInBounds_toArray, List.set_cons_zero, List.set_cons_succ]
        first | (refine Wk.skip (m := 8) (k := 6) rfl (by rfl) ?_) | (refine Wk.step (m := 8) (k := 6) (v := _) rfl (by rfl) (fun wv hS => by obtain ⟨s0, s1, s2⟩ := hS; go_simp; try with_reducible rfl) ?_)
        try simp only [Act.put, List.getElem_toArray, List.getElem_cons_succ, List.getElem_cons_zero, List.setIfInBounds_toArray, List.set_cons_zero, List.set_cons_succ]
        first | (refine Wk.skip (m := 7) (k := 7) rfl (by rfl) ?_) | (refine Wk.step (m := 7) (k := 7) (v := _) rfl (by rfl) (fun wv hS => by obtain ⟨s0, s1, s2⟩ := hS; go_simp; try with_reducible rfl) ?_)
        try simp only [Act.put, List.getElem_toArray, List.getElem_cons_succ, List.getElem_cons_zero, List.setIfInBounds_toArray, List.set_cons_zero, List.set_cons_succ]
        first | (refine Wk.skip (m := 6) (k := 8) rfl (by rfl) ?_) | (refine Wk.step (m := 6) (k := 8) (v := _) rfl (by rfl) (fun wv hS => by obtain ⟨s0, s1, s2⟩ := hS; go_simp; try with_reducible rfl) ?_)
        try simp only [Act.put, List.getElem_toArray, List.getElem_cons_succ, List.getElem_cons_zero, List.setIfInBounds_toArray, List.set_cons_zero, List.set_cons_succ]
        first | (refine Wk.skip (m := 5) (k := 9) rfl (by rfl) ?_) | (refine Wk.step (m := 5) (k := 9) (v := _) rfl (by rfl) (fun wv hS => by obtain ⟨s0, s1, s2⟩ := hS; go_simp; try with_reducible rfl) ?_)
        try simp only [Act.put, List.getElem_toArray, List.getElem_cons_succ, List.getElem_cons_zero, List.setIfInBounds_toArray, List.set_cons_zero, List.set_cons_succ]
        first | (refine Wk.skip (m := 4) (k := 10) rfl (by rfl) ?_) | (refine Wk.step (m := 4) (k := 10) (v := _) rfl (by rfl) (fun wv hS => by obtain ⟨s0, s1, s2⟩ := hS; go_simp; try with_reducible rfl) ?_)
        try simp only [Act.put, List.getElem_toArray, List.getElem_cons_succ, List.getElem_cons_zero, List.setIfInBounds_toArray, List.set_cons_zero, List.set_cons_succ]
        first | (refine Wk.skip (m := 3) (k := 11) rfl (by rfl) ?_) | (refine Wk.step (m := 3) (k := 11) (v := _) rfl (by rfl) (fun wv hS => by obtain ⟨s0, s1, s2⟩ := hS; go_simp; try with_reducible rfl) ?_)
        try simp only [Act.put, List.getElem_toArray, List.getElem_cons_succ, List.getElem_cons_zero, List.setIfInBounds_toArray, List.set_cons_zero, List.set_cons_succ]
        first | (refine Wk.skip (m := 2) (k := 12) rfl (by rfl) ?_) | (refine Wk.step (m := 2) (k := 12) (v := _) rfl (by rfl) (fun wv hS => by obtain ⟨s0, s1, s2⟩ := hS; go_simp; try with_reducible rfl) ?_)
        try simp only [Act.put, List.getElem_toArray, List.getElem_cons_succ, List.getElem_cons_zero, List.setIfInBounds_toArray, List.set_cons_zero, List.set_cons_succ]
        refine Wk.call (m := 1) (k := 13) (v := .int .i64 R) _ _ rfl (by rfl) (fun wv hS => by obtain ⟨s0, s1, s2⟩ := hS; go_simp; first | done | exact ⟨rfl, rfl⟩ | with_reducible rfl) (fun wv hS => ?_) ?_; · obtain ⟨s0, s1, s2⟩ := hS; refine (specRRate gi y.nd y.eg now al nl cl Bl zs wv (hlW.mk s0 hBlW (.inr (Nat.le_refl _))) (Nat.le_trans hBlW s0.size) hnl).mono ?_; rintro e w' ⟨he, mm⟩; exact ⟨by rw [he, hR.out], ⟨s0.trans mm, mm.cellAt s1, mm.cellAt s2⟩⟩
        try simp only [Act.put, List.getElem_toArray, List.getElem_cons_succ, List.getElem_cons_zero, List.setIfInBounds_toArray, List.set_cons_zero, List.set_cons_succ]
        first | (refine Wk.skip (m := 0) (k := 14) rfl (by rfl) ?_) | (refine Wk.step (m := 0) (k := 14) (v := _) rfl (by rfl) (fun wv hS => by obtain ⟨s0, s1, s2⟩ := hS; go_simp; try with_reducible rfl) ?_)
        try simp only [Act.put, List.getElem_toArray, List.getElem_cons_succ, List.getElem_cons_zero, List.setIfInBounds_toArray, List.set_cons_zero, List.set_cons_succ]
        refine Wk.done fun wE hE => ?_
        clear c0 c2
        obtain ⟨mE, c0, c2⟩ := hE
        go_wp2_with fail
        go_roundw
        case rel => exact ⟨rfl, k + 1, by omega, by go_num, HA, hM.trans mE⟩
        case measure => simp [intOf]; omega
    · obtain rfl : k = N := by omega
      by_cases h0 : k = 0
      · have e0 : decide ((0 : Int) < (k : Int)) = false := by simp; omega
        have e0' : decide (0 < k) = false := by simp; omega
        have HE := Lib.hid (show allRated (LS.map (fun y : TStep => rrFrom zs gi y.nd y.eg now nl nl)) = false by unfold allRated; rw [List.length_map, hNl, e0']; rfl)
        go_wp2_with fail
        go_ret
        exact ⟨retB HE.out.symm, MW.trans hM⟩
      · have e0 : decide ((0 : Int) < (k : Int)) = true := by simp; omega
        have e0' : decide (0 < k) = true := by simp; omega
        have HE := Lib.hid (show allRated (LS.map (fun y : TStep => rrFrom zs gi y.nd y.eg now nl nl)) = true from rated_yes (by rw [List.length_map, hNl]; omega) (fun j hj => by rw [← hFF.out]; exact hAll.out j (by rw [List.length_map, hNl] at hj; exact hj)))
        go_wp2_with fail
        go_ret
        exact ⟨retB (by first | (rw [HE.out]; done) | (rw [HE.out]; first | rfl | exact e0 | exact e0')), MW.trans hM⟩

set_option maxRecDepth 100000 in
set_option maxHeartbeats 8000000 in
theorem specAvail (gi now : Int) (al : Option Addr) (nl cl Bl : Nat) (zs : List TReservation) (a : Option Addr) (n c B : Nat) (ps : List TPathPart) (w : World) (hl : HasReservation w Bl al nl zs) (hBl : Bl ≤ w.heap.size) (hnl : nl ≤ 1048576) (h : HasPathPart w B a n ps) (hB : B ≤ w.heap.size) (hs : szPathPart ps n ≤ 1048576) :
    Calls Try.prog 23 #[.slice al nl cl, .agg #[.slice a n c], .int .i64 gi, .int .i64 now] w fun e w' => e = .returned (.int .i64 (leastUp (nthI ((filtUp leaves (pathSt ps n) (pathSt ps n).length).map (fun y : TStep => frV (wrap64 (gi - rateUp zs y.nd y.eg now nl))))) ((filtUp leaves (pathSt ps n) (pathSt ps n).length).map (fun y : TStep => frV (wrap64 (gi - rateUp zs y.nd y.eg now nl)))).length)) ∧ Mk0 w w' := by
  have M0 := Mk.alloc w (Obj.cells #[Value.slice a n c] 30)
  have hub := filtUp_le leaves (pathSt ps n) (pathSt ps n).length
  have hlenR := Nat.le_trans (pathSt_le ps n) hs
  obtain ⟨LS, hLS⟩ : ∃ L, Hid (L = (filtUp leaves (pathSt ps n) (pathSt ps n).length)) := ⟨_, Lib.hid rfl⟩
  have hlenL : LS.length ≤ 1048576 := by rw [hLS.out]; omega
  rw [← hLS.out]
  go_enter Try.func23, Try.ntmps23
  go_wp2_with fail
  refine (specEgress a n c B ps _ (h.mk M0 hB (.inr (Nat.le_refl _))) (Nat.le_trans hB M0.size) hs).mono ?_
  rintro e w2 ⟨A, N, C, rfl, hcc, hO, m2⟩
  rw [← hLS.out] at hO
  have hNl := hO.1
  have hH := hO.has
  have MW := M0.trans m2
  clear hO hcc M0 m2
  obtain ⟨FF, hFF⟩ : ∃ L, Hid (L = nthI (LS.map (fun y : TStep => frV (wrap64 (gi - rateUp zs y.nd y.eg now nl))))) := ⟨_, Lib.hid rfl⟩
  go_wp2_with fail
  go_loopw [10, 11] (fun r i wr => ∃ k : Nat, k ≤ N ∧ i = .int .i64 (k : Int) ∧ r = .int .i64 (leastUp FF k) ∧ Mk0 w2 wr) (fun _ i _ => N - (intOf i).toNat)
  case atStart => exact ⟨0, Nat.zero_le _, rfl, rfl, Mk.refl _ _ _⟩
  case round =>
    obtain ⟨k, hk, rfl, rfl, hM⟩ := hrel
    obtain ⟨V, hV⟩ : ∃ V, Hid (V = leastUp FF k) := ⟨_, Lib.hid rfl⟩
    rw [← hV.out]
    by_cases hlt : k < N
    · have hMW := MW.trans hM
      have hlW := hl.mk hMW hBl (.inr (Nat.le_refl _))
      have hBlW := Nat.le_trans hBl hMW.size
      obtain ⟨b, off, y, rfl, hb, hy, c0, c1, c2⟩ := HasStep.at _ _ _ _ _ _ (hH.mk hM (Nat.le_refl _) (.inr (Nat.le_refl _))) hlt
      have i1 : (0 : Int) ≤ (k : Int) := by omega
      have i2 : (k : Int) < (N : Int) := by omega
      obtain ⟨R, hR⟩ : ∃ R, Hid (R = (frV (wrap64 (gi - rateUp zs y.nd y.eg now nl)))) := ⟨_, Lib.hid rfl⟩
      have HF := Lib.hid (show FF k = R by rw [hFF.out, hR.out, hy.out]; exact nthI_map _ _ (by rw [hNl]; exact hlt))
      by_cases h0 : k = 0
      · have HE := Lib.hid (show leastUp FF (k + 1) = R by rw [h0, leastUp_one, ← HF.out, h0])
        have g0 : ((k : Int) == 0) = true := by simp; omega
        clear h0
        go_wp2_with fail
        refine wp_region_wk (fun w' => Mk0 wr w' ∧ w'.cell? ⟨b, off + k * 3, none⟩ = some (.int .i64 y.nd) ∧ w'.cell? ⟨b, off + k * 3 + 2, none⟩ = some (.int .i64 y.eg)) (by kernel_rfl) (by kernel_rfl) (⟨Mk.drew1 _, c0, c2⟩) ?_
        change Wk _ _ _ _ 15 0 _
        first | (refine Wk.skip (m := 14) (k := 0) rfl (by rfl) ?_) | (refine Wk.step (m := 14) (k := 0) (v := _) rfl (by rfl) (fun wv hS => by obtain ⟨s0, s1, s2⟩ := hS; go_simp; try with_reducible rfl) ?_)
        try simp only [Act.put, List.getElem_toArray, List.getElem_cons_zero, List.setIfInBounds_toArray, List.set_cons_zero, List.set_cons_succ]
        first | (refine Wk.skip (m := 13) (k := 1) rfl (by rfl) ?_) | (refine Wk.step (m := 13) (k := 1) (v := _) rfl (by rfl) (fun wv hS => by obtain ⟨s0, s1, s2⟩ := hS; go_simp; try with_reducible rfl) ?_)
        try simp only [Act.put, List.getElem_toArray, List.getElem_cons_succ, List.getElem_cons_zero, List.setIfInBounds_toArray, List.set_cons_zero, List.set_cons_succ]
        first | (refine Wk.skip (m := 12) (k := 2) rfl (by rfl) ?_) | (refine Wk.step (m := 12) (k := 2) (v := _) rfl (by rfl) (fun wv hS => by obtain ⟨s0, s1, s2⟩ := hS; go_simp; try with_reducible rfl) ?_)
        try simp only [Act.put, List.getElem_toArray, List.getElem_cons_succ, List.getElem_cons_zero, List.setIfInBounds_toArray, List.set_cons_zero, List.set_cons_succ]
        first | (refine Wk.skip (m := 11) (k := 3) rfl (by rfl) ?_) | (refine Wk.step (m := 11) (k := 3) (v := _) rfl (by rfl) (fun wv hS => by obtain ⟨s0, s1, s2⟩ := hS; go_simp; try with_reducible rfl) ?_)
        try simp only [Act.put, List.getElem_toArray, List.getElem_cons_succ, List.getElem_cons_zero, List.setIfInBounds_toArray, List.set_cons_zero, List.set_cons_succ]
        first | (refine Wk.skip (m := 10) (k := 4) rfl (by rfl) ?_) | (refine Wk.step (m := 10) (k := 4) (v := _) rfl (by rfl) (fun wv hS => by obtain ⟨s0, s1, s2⟩ := hS; go_simp; try with_reducible rfl) ?_)
        try simp only [Act.put, List.getElem_toArray, List.getElem_cons_succ, List.getElem_cons_zero, List.setIfInBounds_toArray, List.set_cons_zero, List.set_cons_succ]
        first | (refine Wk.skip (m := 9) (k := 5) rfl (by rfl) ?_) | (refine Wk.step (m := 9) (k := 5) (v := _) rfl (by rfl) (fun wv hS => by obtain ⟨s0, s1, s2⟩ := hS; go_simp; try with_reducible rfl) ?_)
        try simp only [Act.put, List.getElem_toArray, List.getElem_cons_succ, List.getElem_cons_zero, List.setIfInBounds_toArray, List.set_cons_zero, List.set_cons_succ]
        first | (refine Wk.skip (m := 8) (k := 6) rfl (by rfl) ?_) | (refine Wk.step (m := 8) (k := 6) (v := _) rfl (by rfl) (fun wv hS => by obtain ⟨s0, s1, s2⟩ := hS; go_simp; try with_reducible rfl) ?_)
        try simp only [Act.put, List.getElem_toArray, List.getElem_cons_succ, List.getElem_cons_zero, List.setIfInBounds_toArray, List.set_cons_zero, List.set_cons_succ]
        first | (refine Wk.skip (m := 7) (k := 7) rfl (by rfl) ?_) | (refine Wk.step (m := 7) (k := 7) (v := _) rfl (by rfl) (fun wv hS => by obtain ⟨s0, s1, s2⟩ := hS; go_simp; try with_reducible rfl) ?_)
        try simp only [Act.put, List.getElem_toArray, List.getElem_cons_succ, List.getElem_cons_zero, List.setIfInBounds_toArray, List.set_cons_zero, List.set_cons_succ]
        first | (refine Wk.skip (m := 6) (k := 8) rfl (by rfl) ?_) | (refine Wk.step (m := 6) (k := 8) (v := _) rfl (by rfl) (fun wv hS => by obtain ⟨s0, s1, s2⟩ := hS; go_simp; try with_reducible rfl) ?_)
        try simp only [Act.put, List.getElem_toArray, List.getElem_cons_succ, List.getElem_cons_zero, List.setIfInBounds_toArray, List.set_cons_zero, List.set_cons_succ]
        first | (refine Wk.skip (m := 5) (k := 9) rfl (by rfl) ?_) | (refine Wk.step (m := 5) (k := 9) (v := _) rfl (by rfl) (fun wv hS => by obtain ⟨s0, s1, s2⟩ := hS; go_simp; try with_reducible rfl) ?_)
        try simp only [Act.put, List.getElem_toArray, List.getElem_cons_succ, List.getElem_cons_zero, List.setIfInBounds_toArray, List.set_cons_zero, List.set_cons_succ]
        first | (refine Wk.skip (m := 4) (k := 10) rfl (by rfl) ?_) | (refine Wk.step (m := 4) (k := 10) (v := _) rfl (by rfl) (fun wv hS => by obtain ⟨s0, s1, s2⟩ := hS; go_simp; try with_reducible rfl) ?_)
        try simp only [Act.put, List.getElem_toArray, List.getElem_cons_succ, List.getElem_cons_zero, List.setIfInBounds_toArray, List.set_cons_zero, List.set_cons_succ]
        first | (refine Wk.skip (m := 3) (k := 11) rfl (by rfl) ?_) | (refine Wk.step (m := 3) (k := 11) (v := _) rfl (by rfl) (fun wv hS => by obtain ⟨s0, s1, s2⟩ := hS; go_simp; try with_reducible rfl) ?_)
        try simp only [Act.put, List.getElem_toArray, List.getElem_cons_succ, List.getElem_cons_zero, List.setIfInBounds_toArray, List.set_cons_zero, List.set_cons_succ]
        first | (refine Wk.skip (m := 2) (k := 12) rfl (by rfl) ?_) | (refine Wk.step (m := 2) (k := 12) (v := _) rfl (by rfl) (fun wv hS => by obtain ⟨s0, s1, s2⟩ := hS; go_simp; try with_reducible rfl) ?_)
        try simp only [Act.put, List.getElem_toArray, List.getElem_cons_succ, List.getElem_cons_zero, List.setIfInBounds_toArray, List.set_cons_zero, List.set_cons_succ]
        refine Wk.call (m := 1) (k := 13) (v := .int .i64 R) _ _ rfl (by rfl) (fun wv hS => by obtain ⟨s0, s1, s2⟩ := hS; go_simp; first | done | exact ⟨rfl, rfl⟩ | with_reducible rfl) (fun wv hS => ?_) ?_; · obtain ⟨s0, s1, s2⟩ := hS; refine (specFree gi y.nd y.eg now al nl cl Bl zs wv (hlW.mk s0 hBlW (.inr (Nat.le_refl _))) (Nat.le_trans hBlW s0.size) hnl).mono ?_; rintro e w' ⟨he, mm⟩; exact ⟨by rw [he, hR.out], ⟨s0.trans mm, mm.cellAt s1, mm.cellAt s2⟩⟩
        try simp only [Act.put, List.getElem_toArray, List.getElem_cons_succ, List.getElem_cons_zero, List.setIfInBounds_toArray, List.set_cons_zero, List.set_cons_succ]
        first | (refine Wk.skip (m := 0) (k := 14) rfl (by rfl) ?_) | (refine Wk.step (m := 0) (k := 14) (v := _) rfl (by rfl) (fun wv hS => by obtain ⟨s0, s1, s2⟩ := hS; go_simp; try with_reducible rfl) ?_)
        try simp only [Act.put, List.getElem_toArray, List.getElem_cons_succ, List.getElem_cons_zero, List.setIfInBounds_toArray, List.set_cons_zero, List.set_cons_succ]
        refine Wk.done fun wE hE => ?_
        clear c0 c2
        obtain ⟨mE, c0, c2⟩ := hE
        go_wp2_with fail
        go_roundw
        case rel => exact ⟨k + 1, by omega, by go_num, congrArg (Value.int .i64) (by rw [HE.out]), hM.trans mE⟩
        case measure => simp [intOf]; omega
      · have g0 : ((k : Int) == 0) = false := by simp; omega
        by_cases h1 : R < V
        · have HE := Lib.hid (show leastUp FF (k + 1) = R by rw [leastUp_lt h0 (by rw [HF.out, ← hV.out]; exact h1), HF.out])
          clear h0
          have g1 : decide (R < V) = true := by simpa using h1
          go_wp2_with fail
          refine wp_region_wk (fun w' => Mk0 wr w' ∧ w'.cell? ⟨b, off + k * 3, none⟩ = some (.int .i64 y.nd) ∧ w'.cell? ⟨b, off + k * 3 + 2, none⟩ = some (.int .i64 y.eg)) (by kernel_rfl) (by kernel_rfl) (⟨Mk.drew1 _, c0, c2⟩) ?_
          change Wk _ _ _ _ 15 0 _
          first | (refine Wk.skip (m := 14) (k := 0) rfl (by rfl) ?_) | (refine Wk.step (m := 14) (k := 0) (v := _) rfl (by rfl) (fun wv hS => by obtain ⟨s0, s1, s2⟩ := hS; go_simp; try with_reducible rfl) ?_)
          try simp only [Act.put, List.getElem_toArray, List.getElem_cons_zero, List.setIfInBounds_toArray, List.set_cons_zero, List.set_cons_succ]
          first | (refine Wk.skip (m := 13) (k := 1) rfl (by rfl) ?_) | (refine Wk.step (m := 13) (k := 1) (v := _) rfl (by rfl) (fun wv hS => by obtain ⟨s0, s1, s2⟩ := hS; go_simp; try with_reducible rfl) ?_)
          try simp only [Act.put, List.getElem_toArray, List.getElem_cons_succ, List.getElem_cons_zero, List.setIfInBounds_toArray, List.set_cons_zero, List.set_cons_succ]
          first | (refine Wk.skip (m := 12) (k := 2) rfl (by rfl) ?_) | (refine Wk.step (m := 12) (k := 2) (v := _) rfl (by rfl) (fun wv hS => by obtain ⟨s0, s1, s2⟩ := hS; go_simp; try with_reducible rfl) ?_)
          try simp only [Act.put, List.getElem_toArray, List.getElem_cons_succ, List.getElem_cons_zero, List.setIfInBounds_toArray, List.set_cons_zero, List.set_cons_succ]
          first | (refine Wk.skip (m := 11) (k := 3) rfl (by rfl) ?_) | (refine Wk.step (m := 11) (k := 3) (v := _) rfl (by rfl) (fun wv hS => by obtain ⟨s0, s1, s2⟩ := hS; go_simp; try with_reducible rfl) ?_)
          try simp only [Act.put, List.getElem_toArray, List.getElem_cons_succ, List.getElem_cons_zero, List.setIfInBounds_toArray, List.set_cons_zero, List.set_cons_succ]
          first | (refine Wk.skip (m := 10) (k := 4) rfl (by rfl) ?_) | (refine Wk.step (m := 10) (k := 4) (v := _) rfl (by rfl) (fun wv hS => by obtain ⟨s0, s1, s2⟩ := hS; go_simp; try with_reducible rfl) ?_)
          try simp only [Act.put, List.getElem_toArray, List.getElem_cons_succ, List.getElem_cons_zero, List.setIfInBounds_toArray, List.set_cons_zero, List.set_cons_succ]
          first | (refine Wk.skip (m := 9) (k := 5) rfl (by rfl) ?_) | (refine Wk.step (m := 9) (k := 5) (v := _) rfl (by rfl) (fun wv hS => by obtain ⟨s0, s1, s2⟩ := hS; go_simp; try with_reducible rfl) ?_)
          try simp only [Act.put, List.getElem_toArray, List.getElem_cons_succ, List.getElem_cons_zero, List.setIfInBounds_toArray, List.set_cons_zero, List.set_cons_succ]
          first | (refine Wk.skip (m := 8) (k := 6) rfl (by rfl) ?_) | (refine Wk.step (m := 8) (k := 6) (v := _) rfl (by rfl) (fun wv hS => by obtain ⟨s0, s1, s2⟩ := hS; go_simp; try with_reducible rfl) ?_)
          try simp only [Act.put, List.getElem_toArray, List.getElem_cons_succ, List.getElem_cons_zero, List.setIfInBounds_toArray, List.set_cons_zero, List.set_cons_succ]
          first | (refine Wk.skip (m := 7) (k := 7) rfl (by rfl) ?_) | (refine Wk.step (m := 7) (k := 7) (v := _) rfl (by rfl) (fun wv hS => by obtain ⟨s0, s1, s2⟩ := hS; go_simp; try with_reducible rfl) ?_)
          try simp only [Act.put, List.getElem_toArray, List.getElem_cons_succ, List.getElem_cons_zero, List.setIfInBounds_toArray, List.set_cons_zero, List.set_cons_succ]
          first | (refine Wk.skip (m := 6) (k := 8) rfl (by rfl) ?_) | (refine Wk.step (m := 6) (k := 8) (v := _) rfl (by rfl) (fun wv hS => by obtain ⟨s0, s1, s2⟩ := hS; go_simp; try with_reducible rfl) ?_)
          try simp only [Act.put, List.getElem_toArray, List.getElem_cons_succ, List.getElem_cons_zero, List.setIfInBounds_toArray, List.set_cons_zero, List.set_cons_succ]
          first | (refine Wk.skip (m := 5) (k := 9) rfl (by rfl) ?_) | (refine Wk.step (m := 5) (k := 9) (v := _) rfl (by rfl) (fun wv hS => by obtain ⟨s0, s1, s2⟩ := hS; go_simp; try with_reducible rfl) ?_)
          try simp only [Act.put, List.getElem_toArray, List.getElem_cons_succ, List.getElem_cons_zero, List.setIfInBounds_toArray, List.set_cons_zero, List.set_cons_succ]
          first | (refine Wk.skip (m := 4) (k := 10) rfl (by rfl) ?_) | (refine Wk.step (m := 4) (k := 10) (v := _) rfl (by rfl) (fun wv hS => by obtain ⟨s0, s1, s2⟩ := hS; go_simp; try with_reducible rfl) ?_)
          try simp only [Act.put, List.getElem_toArray, List.getElem_cons_succ, List.getElem_cons_zero, List.setIfInBounds_toArray, List.set_cons_zero, List.set_cons_succ]
          first | (refine Wk.skip (m := 3) (k := 11) rfl (by rfl) ?_) | (refine Wk.step (m := 3) (k := 11) (v := _) rfl (by rfl) (fun wv hS => by obtain ⟨s0, s1, s2⟩ := hS; go_simp; try with_reducible rfl) ?_)
          try simp only [Act.put, List.getElem_toArray, List.getElem_cons_succ, List.getElem_cons_zero, List.setIfInBounds_toArray, List.set_cons_zero, List.set_cons_succ]
          first | (refine Wk.skip (m := 2) (k := 12) rfl (by rfl) ?_) | (refine Wk.step (m := 2) (k := 12) (v := _) rfl (by rfl) (fun wv hS => by obtain ⟨s0, s1, s2⟩ := hS; go_simp; try with_reducible rfl) ?_)
          try simp only [Act.put, List.getElem_toArray, List.getElem_cons_succ, List.getElem_cons_zero, List.setIfInBounds_toArray, List.set_cons_zero, List.set_cons_succ]
          refine Wk.call (m := 1) (k := 13) (v := .int .i64 R) _ _ rfl (by rfl) (fun wv hS => by obtain ⟨s0, s1, s2⟩ := hS; go_simp; first | done | exact ⟨rfl, rfl⟩ | with_reducible rfl) (fun wv hS => ?_) ?_; · obtain ⟨s0, s1, s2⟩ := hS; refine (specFree gi y.nd y.eg now al nl cl Bl zs wv (hlW.mk s0 hBlW (.inr (Nat.le_refl _))) (Nat.le_trans hBlW s0.size) hnl).mono ?_; rintro e w' ⟨he, mm⟩; exact ⟨by rw [he, hR.out], ⟨s0.trans mm, mm.cellAt s1, mm.cellAt s2⟩⟩
          try simp only [Act.put, List.getElem_toArray, List.getElem_cons_succ, List.getElem_cons_zero, List.setIfInBounds_toArray, List.set_cons_zero, List.set_cons_succ]
          first | (refine Wk.skip (m := 0) (k := 14) rfl (by rfl) ?_) | (refine Wk.step (m := 0) (k := 14) (v := _) rfl (by rfl) (fun wv hS => by obtain ⟨s0, s1, s2⟩ := hS; go_simp; try with_reducible rfl) ?_)
          try simp only [Act.put, List.getElem_toArray, List.getElem_cons_succ, List.getElem_cons_zero, List.setIfInBounds_toArray, List.set_cons_zero, List.set_cons_succ]
          refine Wk.done fun wE hE => ?_
          clear c0 c2
          obtain ⟨mE, c0, c2⟩ := hE
          go_wp2_with fail
          go_roundw
          case rel => exact ⟨k + 1, by omega, by go_num, congrArg (Value.int .i64) (by rw [HE.out]), hM.trans mE⟩
          case measure => simp [intOf]; omega
        · have HE := Lib.hid (show leastUp FF (k + 1) = V by rw [leastUp_ge h0 (by rw [HF.out, ← hV.out]; exact h1), ← hV.out])
          clear h0
          have g1 : decide (R < V) = false := by simpa using h1
          go_wp2_with fail
          refine wp_region_wk (fun w' => Mk0 wr w' ∧ w'.cell? ⟨b, off + k * 3, none⟩ = some (.int .i64 y.nd) ∧ w'.cell? ⟨b, off + k * 3 + 2, none⟩ = some (.int .i64 y.eg)) (by kernel_rfl) (by kernel_rfl) (⟨Mk.drew1 _, c0, c2⟩) ?_
          change Wk _ _ _ _ 15 0 _
          first | (refine Wk.skip (m := 14) (k := 0) rfl (by rfl) ?_) | (refine Wk.step (m := 14) (k := 0) (v := _) rfl (by rfl) (fun wv hS => by obtain ⟨s0, s1, s2⟩ := hS; go_simp; try with_reducible rfl) ?_)
          try simp only [Act.put, List.getElem_toArray, List.getElem_cons_zero, List.setIfInBounds_toArray, List.set_cons_zero, List.set_cons_succ]
          first | (refine Wk.skip (m := 13) (k := 1) rfl (by rfl) ?_) | (refine Wk.step (m := 13) (k := 1) (v := _) rfl (by rfl) (fun wv hS => by obtain ⟨s0, s1, s2⟩ := hS; go_simp; try with_reducible rfl) ?_)
          try simp only [Act.put, List.getElem_toArray, List.getElem_cons_succ, List.getElem_cons_zero, List.setIfInBounds_toArray, List.set_cons_zero, List.set_cons_succ]
          first | (refine Wk.skip (m := 12) (k := 2) rfl (by rfl) ?_) | (refine Wk.step (m := 12) (k := 2) (v := _) rfl (by rfl) (fun wv hS => by obtain ⟨s0, s1, s2⟩ := hS; go_simp; try with_reducible rfl) ?_)
          try simp only [Act.put, List.getElem_toArray, List.getElem_cons_succ, List.getElem_cons_zero, List.setIfInBounds_toArray, List.set_cons_zero, List.set_cons_succ]
          first | (refine Wk.skip (m := 11) (k := 3) rfl (by rfl) ?_) | (refine Wk.step (m := 11) (k := 3) (v := _) rfl (by rfl) (fun wv hS => by obtain ⟨s0, s1, s2⟩ := hS; go_simp; try with_reducible rfl) ?_)
          try simp only [Act.put, List.getElem_toArray, List.getElem_cons_succ, List.getElem_cons_zero, List.setIfInBounds_toArray, List.set_cons_zero, List.set_cons_succ]
          first | (refine Wk.skip (m := 10) (k := 4) rfl (by rfl) ?_) | (refine Wk.step (m := 10) (k := 4) (v := _) rfl (by rfl) (fun wv hS => by obtain ⟨s0, s1, s2⟩ := hS; go_simp; try with_reducible rfl) ?_)
          try simp only [Act.put, List.getElem_toArray, List.getElem_cons_succ, List.getElem_cons_zero, List.setIfInBounds_toArray, List.set_cons_zero, List.set_cons_succ]
          first | (refine Wk.skip (m := 9) (k := 5) rfl (by rfl) ?_) | (refine Wk.step (m := 9) (k := 5) (v := _) rfl (by rfl) (fun wv hS => by obtain ⟨s0, s1, s2⟩ := hS; go_simp; try with_reducible rfl) ?_)
          try simp only [Act.put, List.getElem_toArray, List.getElem_cons_succ, List.getElem_cons_zero, List.setIfInBounds_toArray, List.set_cons_zero, List.set_cons_succ]
          first | (refine Wk.skip (m := 8) (k := 6) rfl (by rfl) ?_) | (refine Wk.step (m := 8) (k := 6) (v := _) rfl (by rfl) (fun wv hS => by obtain ⟨s0, s1, s2⟩ := hS; go_simp; try with_reducible rfl) ?_)
          try simp only [Act.put, List.getElem_toArray, List.getElem_cons_succ, List.getElem_cons_zero, List.setIfInBounds_toArray, List.set_cons_zero, List.set_cons_succ]
          first | (refine Wk.skip (m := 7) (k := 7) rfl (by rfl) ?_) | (refine Wk.step (m := 7) (k := 7) (v := _) rfl (by rfl) (fun wv hS => by obtain ⟨s0, s1, s2⟩ := hS; go_simp; try with_reducible rfl) ?_)
          try simp only [Act.put, List.getElem_toArray, List.getElem_cons_succ, List.getElem_cons_zero, List.setIfInBounds_toArray, List.set_cons_zero, List.set_cons_succ]
          first | (refine Wk.skip (m := 6) (k := 8) rfl (by rfl) ?_) | (refine Wk.step (m := 6) (k := 8) (v := _) rfl (by rfl) (fun wv hS => by obtain ⟨s0, s1, s2⟩ := hS; go_simp; try with_reducible rfl) ?_)
          try simp only [Act.put, List.getElem_toArray, List.getElem_cons_succ, List.getElem_cons_zero, List.setIfInBounds_toArray, List.set_cons_zero, List.set_cons_succ]
          first | (refine Wk.skip (m := 5) (k := 9) rfl (by rfl) ?_) | (refine Wk.step (m := 5) (k := 9) (v := _) rfl (by rfl) (fun wv hS => by obtain ⟨s0, s1, s2⟩ := hS; go_simp; try with_reducible rfl) ?_)
          try simp only [Act.put, List.getElem_toArray, List.getElem_cons_succ, List.getElem_cons_zero, List.setIfInBounds_toArray, List.set_cons_zero, List.set_cons_succ]
          first | (refine Wk.skip (m := 4) (k := 10) rfl (by rfl) ?_) | (refine Wk.step (m := 4) (k := 10) (v := _) rfl (by rfl) (fun wv hS => by obtain ⟨s0, s1, s2⟩ := hS; go_simp; try with_reducible rfl) ?_)
          try simp only [Act.put, List.getElem_toArray, List.getElem_cons_succ, List.getElem_cons_zero, List.setIfInBounds_toArray, List.set_cons_zero, List.set_cons_succ]
          first | (refine Wk.skip (m := 3) (k := 11) rfl (by rfl) ?_) | (refine Wk.step (m := 3) (k := 11) (v := _) rfl (by rfl) (fun wv hS => by obtain ⟨s0, s1, s2⟩ := hS; go_simp; try with_reducible rfl) ?_)
          try simp only [Act.put, List.getElem_toArray, List.getElem_cons_succ, List.getElem_cons_zero, List.setIfInBounds_toArray, List.set_cons_zero, List.set_cons_succ]
          first | (refine Wk.skip (m := 2) (k := 12) rfl (by rfl) ?_) | (refine Wk.step (m := 2) (k := 12) (v := _) rfl (by rfl) (fun wv hS => by obtain ⟨s0, s1, s2⟩ := hS; go_simp; try with_reducible rfl) ?_)
          try simp only [Act.put, List.getElem_toArray, List.getElem_cons_succ, List.getElem_cons_zero, List.setIfInBounds_toArray, List.set_cons_zero, List.set_cons_succ]
          refine Wk.call (m := 1) (k := 13) (v := .int .i64 R) _ _ rfl (by rfl) (fun wv hS => by obtain ⟨s0, s1, s2⟩ := hS; go_simp; first | done | exact ⟨rfl, rfl⟩ | with_reducible rfl) (fun wv hS => ?_) ?_; · obtain ⟨s0, s1, s2⟩ := hS; refine (specFree gi y.nd y.eg now al nl cl Bl zs wv (hlW.mk s0 hBlW (.inr (Nat.le_refl _))) (Nat.le_trans hBlW s0.size) hnl).mono ?_; rintro e w' ⟨he, mm⟩; exact ⟨by rw [he, hR.out], ⟨s0.trans mm, mm.cellAt s1, mm.cellAt s2⟩⟩
          try simp only [Act.put, List.getElem_toArray, List.getElem_cons_succ, List.getElem_cons_zero, List.setIfInBounds_toArray, List.set_cons_zero, List.set_cons_succ]
          first | (refine Wk.skip (m := 0) (k := 14) rfl (by rfl) ?_) | (refine Wk.step (m := 0) (k := 14) (v := _) rfl (by rfl) (fun wv hS => by obtain ⟨s0, s1, s2⟩ := hS; go_simp; try with_reducible rfl) ?_)
          try simp only [Act.put, List.getElem_toArray, List.getElem_cons_succ, List.getElem_cons_zero, List.setIfInBounds_toArray, List.set_cons_zero, List.set_cons_succ]
          refine Wk.done fun wE hE => ?_
          clear c0 c2
          obtain ⟨mE, c0, c2⟩ := hE
          go_wp2_with fail
          go_roundw
          case rel => exact ⟨k + 1, by omega, by go_num, congrArg (Value.int .i64) (by rw [HE.out]), hM.trans mE⟩
          case measure => simp [intOf]; omega
    · obtain rfl : k = N := by omega
      go_wp2_with fail
      go_ret
      exact ⟨retI (by rw [hV.out, hFF.out, List.length_map, hNl]), MW.trans hM⟩

end Go.Proofs.Ytldnfjpdhmjhoaa
