
/- Revoked of both sides. -/
import Derived.Test.YtkmofhpipcodbaaAff
import Derived.Test.YtkmofhpipcodbaaFiltRevocation
import Derived.Test.YtkmofhpipcodbaaSRevocation
import Derived.Test.YtkmofhpipcodbaaUpd
import Derived.Test.YtkmofhpipcodbaaWk
import Derived.Test.YtkmofhpipcodbaaRet
import Derived.Laws.EntriesVeiled
namespace Go.Proofs.Ytkmofhpipcodbaa
open Go.ChangeShapes Go.WideShapes Go.ChangeAt Go.RowKit
set_option linter.unusedVariables false
def rvkB (R : List TRevocation) (N : Nat) (ps : List TPathPart) (n : Nat) : Bool := decide (0 ≤ firstP (affB ps n) R N N)
def rvkAll (zs : List TRevocation) (nz : Nat) (t : Int) (ps : List TPathPart) (n : Nat) : Bool := rvkB (filtUp (pActN t) zs nz) (filtUp (pActN t) zs nz).length ps n
set_option maxRecDepth 100000 in
set_option maxHeartbeats 4000000 in
theorem rvkClosure (x : TRevocation) (p : Nat) (a : Option Addr) (n c B : Nat) (ps : List TPathPart) (w : World) (h : HasPathPart w B a n ps) (hB : B ≤ w.heap.size) (hn : szPathPart ps n ≤ 1048576) (kp : w.cell? ⟨p, 0, none⟩ = some (.slice a n c)) :
    Calls Try.prog 79 #[.agg #[.int .i64 x.nd, .int .i64 x.ifc, .int .i64 x.til], .pointer (some ⟨p, 0, none⟩)] w fun e w' => e = .returned (.bool (affB ps n x)) ∧ Mk0 w w' := by
  have M0 := Mk.alloc w (Obj.cells #[Value.int .i64 x.nd, Value.int .i64 x.ifc, Value.int .i64 x.til] 128)
  have yp := World.block_lt_of_cell? _ _ kp
  simp only at yp
  go_enter Try.func79, Try.ntmps79
  go_wp2_with fail
  refine (implAff x a n c B ps _ (h.mk M0 hB (.inr (Nat.le_refl _))) (Nat.le_trans hB M0.size) hn).mono ?_
  rintro e w2 ⟨rfl, m2⟩
  go_wp2_with fail
  go_ret
  exact ⟨rfl, M0.trans m2⟩

set_option maxRecDepth 100000 in
set_option maxHeartbeats 4000000 in
theorem indexRvk (p : Nat) (ar : Option Addr) (N cr Br : Nat) (R : List TRevocation) (a : Option Addr) (n c B : Nat) (ps : List TPathPart) (w : World) (h : HasPathPart w B a n ps) (hB : B ≤ w.heap.size) (hn : szPathPart ps n ≤ 1048576) (hr : HasRevocation w Br ar N R) (hBr : Br ≤ w.heap.size) (hN : N ≤ 2097152) (kp : w.cell? ⟨p, 0, none⟩ = some (.slice a n c)) :
    Calls Try.prog 128 #[.slice ar N cr, .func (.func 79) #[] #[.pointer (some ⟨p, 0, none⟩)]] w fun e w' => e = .returned (.int .i64 (firstP (affB ps n) R N N)) ∧ Mk0 w w' := by
  go_enter Try.func128, Try.ntmps128
  go_wp2_with fail
  go_loopw [4, 8] (fun r i wr => r = .int .i64 0 ∧ ∃ k : Nat, k ≤ N ∧ i = .int .i64 k ∧ Hid (firstP (affB ps n) R N N = firstP (affB ps n) R N (N - k)) ∧ Mk0 w wr) (fun _ i _ => N - (intOf i).toNat)
  case atStart => exact ⟨rfl, 0, Nat.zero_le _, rfl, rfl, Mk.refl _ _ _⟩
  case round =>
    obtain ⟨rfl, k, hk, rfl, hS, hM⟩ := hrel
    by_cases hlt : k < N
    · obtain ⟨b, off, x, rfl, hb, hx, d0, d1, d2⟩ := HasRevocation.at _ _ _ _ _ _ (hr.mk hM hBr (.inr (Nat.le_refl _))) hlt
      have hen : (callFunc 79 #[.agg #[.int .i64 x.nd, .int .i64 x.ifc, .int .i64 x.til], .pointer (some ⟨p, 0, none⟩)]).run Try.prog wr = .ok (.enter 79 #[.agg #[.int .i64 x.nd, .int .i64 x.ifc, .int .i64 x.til], .pointer (some ⟨p, 0, none⟩)]) wr := by kernel_rfl
      cases hp : affB ps n x
      · have HE := Lib.hid (show firstP (affB ps n) R N N = firstP (affB ps n) R N (N - (k + 1)) by rw [hS.out]; exact firstP_go hlt (by rw [← hx.out, hp]))
        have HP := Lib.hid hp
        clear hp
        go_wp2_with fail
        refine (rvkClosure x p a n c B ps _ (h.mk hM hB (.inr (Nat.le_refl _))) (Nat.le_trans hB hM.size) hn (hM.cellAt kp)).mono ?_
        rintro e w2 ⟨he, m2⟩
        rw [HP.out] at he
        subst he
        go_wp2_with fail
        go_roundw
        case rel => exact ⟨rfl, k + 1, by omega, by go_num, HE.out, hM.trans m2⟩
        case measure => simp [intOf]; omega
      · have HE := Lib.hid (show firstP (affB ps n) R N N = (k : Int) by rw [hS.out]; exact firstP_stop hlt (by rw [← hx.out, hp]))
        have HP := Lib.hid hp
        clear hp
        go_wp2_with fail
        refine (rvkClosure x p a n c B ps _ (h.mk hM hB (.inr (Nat.le_refl _))) (Nat.le_trans hB hM.size) hn (hM.cellAt kp)).mono ?_
        rintro e w2 ⟨he, m2⟩
        rw [HP.out] at he
        subst he
        go_wp2_with fail
        go_ret
        exact ⟨retI HE.out.symm, hM.trans m2⟩
    · obtain rfl : N = k := by omega
      go_wp2_with fail
      go_ret
      exact ⟨retI (by rw [hS.out, Nat.sub_self]; rfl), hM⟩

set_option maxRecDepth 100000 in
set_option maxHeartbeats 4000000 in
theorem containsRvk (p : Nat) (ar : Option Addr) (N cr Br : Nat) (R : List TRevocation) (a : Option Addr) (n c B : Nat) (ps : List TPathPart) (w : World) (h : HasPathPart w B a n ps) (hB : B ≤ w.heap.size) (hn : szPathPart ps n ≤ 1048576) (hr : HasRevocation w Br ar N R) (hBr : Br ≤ w.heap.size) (hN : N ≤ 2097152) (kp : w.cell? ⟨p, 0, none⟩ = some (.slice a n c)) :
    Calls Try.prog 77 #[.slice ar N cr, .func (.func 79) #[] #[.pointer (some ⟨p, 0, none⟩)]] w fun e w' => e = .returned (.bool (rvkB R N ps n)) ∧ Mk0 w w' := by
  go_enter Try.func77, Try.ntmps77
  go_wp2_with fail
  refine (indexRvk p ar N cr Br R a n c B ps _ h hB hn hr hBr hN kp).mono ?_
  rintro e w2 ⟨rfl, m2⟩
  go_wp2_with fail
  go_ret
  exact ⟨rfl, m2⟩

set_option maxRecDepth 100000 in
set_option maxHeartbeats 4000000 in
theorem implRvk (t : Int) (az : Option Addr) (nz cz Bz : Nat) (zs : List TRevocation) (a : Option Addr) (n c B : Nat) (ps : List TPathPart) (w : World) (h : HasPathPart w B a n ps) (hB : B ≤ w.heap.size) (hn : szPathPart ps n ≤ 1048576) (hz : HasRevocation w Bz az nz zs) (hBz : Bz ≤ w.heap.size) (hnz : nz ≤ 1048576) :
    Calls Try.prog 32 #[.slice az nz cz, .agg #[.slice a n c], .int .i64 t] w fun e w' => e = .returned (.bool (rvkAll zs nz t ps n)) ∧ Mk0 w w' := by
  have M0 := Mk.alloc w (Obj.cells #[Value.slice a n c] 29)
  have kp : (w.alloc (Obj.cells #[Value.slice a n c] 29)).cell? ⟨w.heap.size, 0, none⟩ = some (.slice a n c) := by simp [go_sem]
  have hfl := filtUp_le (pActN t) zs nz
  go_enter Try.func32, Try.ntmps32
  go_wp2_with fail
  refine (implActN t az nz cz Bz zs _ (hz.mk M0 hBz (.inr (Nat.le_refl _))) (Nat.le_trans hBz M0.size) hnz).mono ?_
  rintro e w1 ⟨A, N, cc, rfl, hcc, o1, m1⟩
  replace kp := m1.cellAt kp
  have M1 := M0.trans m1
  have hNN : N ≤ 2097152 := by rw [← o1.1]; omega
  go_wp2_with fail
  refine (containsRvk w.heap.size A N cc _ (filtUp (pActN t) zs nz) a n c B ps _ (h.mk M1 hB (.inr (Nat.le_refl _))) (Nat.le_trans hB M1.size) hn o1.has (Nat.le_refl _) hNN kp).mono ?_
  rintro e w2 ⟨rfl, m2⟩
  go_wp2_with fail
  go_ret
  exact ⟨retB (by unfold rvkAll; rw [o1.1]), M1.trans m2⟩

set_option maxRecDepth 100000 in
set_option maxHeartbeats 4000000 in
theorem specRvk (t : Int) (az : Option Addr) (nz cz Bz : Nat) (zs : List TRevocation) (a : Option Addr) (n c B : Nat) (ps : List TPathPart) (w : World) (h : HasPathPart w B a n ps) (hB : B ≤ w.heap.size) (hn : szPathPart ps n ≤ 1048576) (hz : HasRevocation w Bz az nz zs) (hBz : Bz ≤ w.heap.size) (hnz : nz ≤ 1048576) :
    Calls Try.prog 30 #[.slice az nz cz, .agg #[.slice a n c], .int .i64 t] w fun e w' => e = .returned (.bool (rvkAll zs nz t ps n)) ∧ Mk0 w w' := by
  have M0 := Mk.alloc w (Obj.cells #[Value.slice a n c] 29)
  have kp : (w.alloc (Obj.cells #[Value.slice a n c] 29)).cell? ⟨w.heap.size, 0, none⟩ = some (.slice a n c) := by simp [go_sem]
  have hfl := filtUp_le (pActN t) zs nz
  go_enter Try.func30, Try.ntmps30
  go_wp2_with fail
  refine (specActN t az nz cz Bz zs _ (hz.mk M0 hBz (.inr (Nat.le_refl _))) (Nat.le_trans hBz M0.size) hnz).mono ?_
  rintro e w1 ⟨A, N, cc, rfl, hcc, o1, m1⟩
  replace kp := m1.cellAt kp
  have M1 := M0.trans m1
  have hNN : N ≤ 2097152 := by rw [← o1.1]; omega
  have HN := Lib.hid o1.1
  have i4 : (N : Int) ≤ 2097152 := by omega
  obtain ⟨R, hR⟩ : ∃ R, Hid (R = filtUp (pActN t) zs nz) := ⟨_, Lib.hid rfl⟩
  have ho1 := o1.has
  rw [← hR.out] at ho1
  clear hfl
  go_wp2_with fail
  go_loopw [6, 8] (fun r i wr => r = .bool false ∧ ∃ k : Nat, k ≤ N ∧ i = .int .i64 k ∧ Hid (firstP (affB ps n) R N N = firstP (affB ps n) R N (N - k)) ∧ Mk0 w1 wr) (fun _ i _ => N - (intOf i).toNat)
  case atStart => exact ⟨rfl, 0, Nat.zero_le _, rfl, rfl, Mk.refl _ _ _⟩
  case round =>
    obtain ⟨rfl, k, hk, rfl, hS, hM⟩ := hrel
    replace kp := hM.cellAt kp
    have M1R := M1.trans hM
    by_cases hlt : k < N
    · obtain ⟨b, off, x, rfl, hb, hx, d0, d1, d2⟩ := HasRevocation.at _ _ _ _ _ _ (ho1.mk hM (Nat.le_refl _) (.inr (Nat.le_refl _))) hlt
      have i1 : (0 : Int) ≤ (k : Int) := by omega
      have i2 : (k : Int) < (N : Int) := by omega
      cases hp : affB ps n x
      · have HE := Lib.hid (show firstP (affB ps n) R N N = firstP (affB ps n) R N (N - (k + 1)) by rw [hS.out]; exact firstP_go hlt (by rw [← hx.out, hp]))
        have HP := Lib.hid hp
        clear hp
        go_wp2_with fail
        refine wp_region_wk (fun w' => Mk0 wr w' ∧ w'.cell? ⟨w.heap.size, 0, none⟩ = some (.slice a n c) ∧ w'.cell? ⟨b, off + k * 3, none⟩ = some (.int .i64 x.nd) ∧ w'.cell? ⟨b, off + k * 3 + 1, none⟩ = some (.int .i64 x.ifc) ∧ w'.cell? ⟨b, off + k * 3 + 2, none⟩ = some (.int .i64 x.til)) (by kernel_rfl) (by kernel_rfl) (⟨Mk.drew1 _, kp, d0, d1, d2⟩) ?_
        change Wk _ _ _ _ 6 0 _
        first | (refine Wk.skip (m := 5) (k := 0) rfl (by rfl) ?_) | (refine Wk.step (m := 5) (k := 0) (v := _) rfl (by rfl) (fun wv hS => by obtain ⟨s0, s1, s2, s3, s4⟩ := hS; go_simp; try with_reducible rfl) ?_)
        try simp only [Act.put, List.getElem_toArray, List.getElem_cons_zero, List.setIfInBounds_toArray, List.set_cons_zero, List.set_cons_succ]
        first | (refine Wk.skip (m := 4) (k := 1) rfl (by rfl) ?_) | (refine Wk.step (m := 4) (k := 1) (v := _) rfl (by rfl) (fun wv hS => by obtain ⟨s0, s1, s2, s3, s4⟩ := hS; go_simp; try with_reducible rfl) ?_)
        try simp only [Act.put, List.getElem_toArray, List.getElem_cons_succ, List.getElem_cons_zero, List.setIfInBounds_toArray, List.set_cons_zero, List.set_cons_succ]
        first | (refine Wk.skip (m := 3) (k := 2) rfl (by rfl) ?_) | (refine Wk.step (m := 3) (k := 2) (v := _) rfl (by rfl) (fun wv hS => by obtain ⟨s0, s1, s2, s3, s4⟩ := hS; go_simp; try with_reducible rfl) ?_)
        try simp only [Act.put, List.getElem_toArray, List.getElem_cons_succ, List.getElem_cons_zero, List.setIfInBounds_toArray, List.set_cons_zero, List.set_cons_succ]
        first | (refine Wk.skip (m := 2) (k := 3) rfl (by rfl) ?_) | (refine Wk.step (m := 2) (k := 3) (v := _) rfl (by rfl) (fun wv hS => by obtain ⟨s0, s1, s2, s3, s4⟩ := hS; go_simp; try with_reducible rfl) ?_)
        try simp only [Act.put, List.getElem_toArray, List.getElem_cons_succ, List.getElem_cons_zero, List.setIfInBounds_toArray, List.set_cons_zero, List.set_cons_succ]
        first | (refine Wk.skip (m := 1) (k := 4) rfl (by rfl) ?_) | (refine Wk.step (m := 1) (k := 4) (v := _) rfl (by rfl) (fun wv hS => by obtain ⟨s0, s1, s2, s3, s4⟩ := hS; go_simp; try with_reducible rfl) ?_)
        try simp only [Act.put, List.getElem_toArray, List.getElem_cons_succ, List.getElem_cons_zero, List.setIfInBounds_toArray, List.set_cons_zero, List.set_cons_succ]
        refine Wk.call (m := 0) (k := 5) (v := .bool false) _ _ rfl (by rfl) (fun wv hS => by obtain ⟨s0, s1, s2, s3, s4⟩ := hS; go_simp; first | done | exact ⟨rfl, rfl⟩ | with_reducible rfl) (fun wv hS => ?_) ?_; · obtain ⟨s0, s1, s2, s3, s4⟩ := hS; refine (specAff x a n c B ps wv (h.mk (M1R.trans s0) hB (.inr (Nat.le_refl _))) (Nat.le_trans hB (M1R.trans s0).size) hn).mono ?_; rintro e w' ⟨he, mm⟩; exact ⟨by rw [he, HP.out], s0.trans mm, mm.cellAt s1, mm.cellAt s2, mm.cellAt s3, mm.cellAt s4⟩
        try simp only [Act.put, List.getElem_toArray, List.getElem_cons_succ, List.getElem_cons_zero, List.setIfInBounds_toArray, List.set_cons_zero, List.set_cons_succ]
        refine Wk.done fun wE hE => ?_
        clear kp d0 d1 d2
        obtain ⟨mE, kp, d0, d1, d2⟩ := hE
        go_wp2_with fail
        go_roundw
        case rel => exact ⟨rfl, k + 1, by omega, by go_num, HE.out, hM.trans mE⟩
        case measure => simp [intOf]; omega
      · have HE := Lib.hid (show firstP (affB ps n) R N N = (k : Int) by rw [hS.out]; exact firstP_stop hlt (by rw [← hx.out, hp]))
        have HP := Lib.hid hp
        clear hp
        go_wp2_with fail
        refine wp_region_wk (fun w' => Mk0 wr w' ∧ w'.cell? ⟨w.heap.size, 0, none⟩ = some (.slice a n c) ∧ w'.cell? ⟨b, off + k * 3, none⟩ = some (.int .i64 x.nd) ∧ w'.cell? ⟨b, off + k * 3 + 1, none⟩ = some (.int .i64 x.ifc) ∧ w'.cell? ⟨b, off + k * 3 + 2, none⟩ = some (.int .i64 x.til)) (by kernel_rfl) (by kernel_rfl) (⟨Mk.drew1 _, kp, d0, d1, d2⟩) ?_
        change Wk _ _ _ _ 6 0 _
        first | (refine Wk.skip (m := 5) (k := 0) rfl (by rfl) ?_) | (refine Wk.step (m := 5) (k := 0) (v := _) rfl (by rfl) (fun wv hS => by obtain ⟨s0, s1, s2, s3, s4⟩ := hS; go_simp; try with_reducible rfl) ?_)
        try simp only [Act.put, List.getElem_toArray, List.getElem_cons_zero, List.setIfInBounds_toArray, List.set_cons_zero, List.set_cons_succ]
        first | (refine Wk.skip (m := 4) (k := 1) rfl (by rfl) ?_) | (refine Wk.step (m := 4) (k := 1) (v := _) rfl (by rfl) (fun wv hS => by obtain ⟨s0, s1, s2, s3, s4⟩ := hS; go_simp; try with_reducible rfl) ?_)
        try simp only [Act.put, List.getElem_toArray, List.getElem_cons_succ, List.getElem_cons_zero, List.setIfInBounds_toArray, List.set_cons_zero, List.set_cons_succ]
        first | (refine Wk.skip (m := 3) (k := 2) rfl (by rfl) ?_) | (refine Wk.step (m := 3) (k := 2) (v := _) rfl (by rfl) (fun wv hS => by obtain ⟨s0, s1, s2, s3, s4⟩ := hS; go_simp; try with_reducible rfl) ?_)
        try simp only [Act.put, List.getElem_toArray, List.getElem_cons_succ, List.getElem_cons_zero, List.setIfInBounds_toArray, List.set_cons_zero, List.set_cons_succ]
        first | (refine Wk.skip (m := 2) (k := 3) rfl (by rfl) ?_) | (refine Wk.step (m := 2) (k := 3) (v := _) rfl (by rfl) (fun wv hS => by obtain ⟨s0, s1, s2, s3, s4⟩ := hS; go_simp; try with_reducible rfl) ?_)
        try simp only [Act.put, List.getElem_toArray, List.getElem_cons_succ, List.getElem_cons_zero, List.setIfInBounds_toArray, List.set_cons_zero, List.set_cons_succ]
        first | (refine Wk.skip (m := 1) (k := 4) rfl (by rfl) ?_) | (refine Wk.step (m := 1) (k := 4) (v := _) rfl (by rfl) (fun wv hS => by obtain ⟨s0, s1, s2, s3, s4⟩ := hS; go_simp; try with_reducible rfl) ?_)
        try simp only [Act.put, List.getElem_toArray, List.getElem_cons_succ, List.getElem_cons_zero, List.setIfInBounds_toArray, List.set_cons_zero, List.set_cons_succ]
        refine Wk.call (m := 0) (k := 5) (v := .bool true) _ _ rfl (by rfl) (fun wv hS => by obtain ⟨s0, s1, s2, s3, s4⟩ := hS; go_simp; first | done | exact ⟨rfl, rfl⟩ | with_reducible rfl) (fun wv hS => ?_) ?_; · obtain ⟨s0, s1, s2, s3, s4⟩ := hS; refine (specAff x a n c B ps wv (h.mk (M1R.trans s0) hB (.inr (Nat.le_refl _))) (Nat.le_trans hB (M1R.trans s0).size) hn).mono ?_; rintro e w' ⟨he, mm⟩; exact ⟨by rw [he, HP.out], s0.trans mm, mm.cellAt s1, mm.cellAt s2, mm.cellAt s3, mm.cellAt s4⟩
        try simp only [Act.put, List.getElem_toArray, List.getElem_cons_succ, List.getElem_cons_zero, List.setIfInBounds_toArray, List.set_cons_zero, List.set_cons_succ]
        refine Wk.done fun wE hE => ?_
        clear kp d0 d1 d2
        obtain ⟨mE, kp, d0, d1, d2⟩ := hE
        go_wp2_with fail
        go_ret
        exact ⟨retB (by unfold rvkAll rvkB; rw [← hR.out, show R.length = N from hR.out ▸ HN.out, HE.out]; exact (decide_eq_true (by omega)).symm), M1R.trans mE⟩
    · obtain rfl : N = k := by omega
      go_wp2_with fail
      go_ret
      exact ⟨retB (by unfold rvkAll rvkB; rw [← hR.out, show R.length = N from hR.out ▸ HN.out, hS.out, Nat.sub_self]; rfl), M1R⟩

end Go.Proofs.Ytkmofhpipcodbaa
