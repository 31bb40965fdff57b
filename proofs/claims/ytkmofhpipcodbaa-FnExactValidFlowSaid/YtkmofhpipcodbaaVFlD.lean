
/- ValidFlow of both sides. -/
import Derived.Test.YtkmofhpipcodbaaCFlow
import Derived.Test.YtkmofhpipcodbaaMsgs
import Derived.Test.YtkmofhpipcodbaaNote
import Derived.Test.YtkmofhpipcodbaaInB
import Derived.Test.YtkmofhpipcodbaaWk
import Derived.Test.YtkmofhpipcodbaaRet
import Derived.Laws.EntriesVeiled
namespace Go.Proofs.Ytkmofhpipcodbaa
open Go.ChangeShapes Go.WideShapes Go.ChangeAt Go.RowKit
set_option linter.unusedVariables false
def badR (x : TRevocation) : Bool := !(revOk x.nd x.ifc x.til)
def badB (zs : List TRevocation) (n : Nat) : Bool := decide (0 ≤ firstP badR zs n n)
def curOk (x : Int) (n : Nat) : Bool := (x == 0) || inB x 0 ((n : Int) - 1)
def vFlB (x0 x1 x2 x3 x6 x7 : Int) (n4 : Nat) (z4 : List TMessage) (n5 : Nat) (n8 : Nat) (z8 : List TRevocation) : Bool :=
  inB x0 0 7 && (inB x1 0 7 && (!(x0 == x1) && (inB x2 0 100000 && (decide ((n4 : Int) ≤ 20) && (!(longB z4 n4) && (inB x3 0 (n4 : Int) && (decide ((n5 : Int) ≤ 24) && (curOk x6 n5 && (inB x7 0 4 && (decide ((n8 : Int) ≤ 16) && !(badB z8 n8)))))))))))
theorem bad_no {ps : List TRevocation} {n : Nat} (h : firstP badR ps n n = firstP badR ps n 0) : badB ps n = false := by unfold badB; rw [h]; rfl
theorem bad_yes {ps : List TRevocation} {n k : Nat} (h : firstP badR ps n n = (k : Int)) : badB ps n = true := by unfold badB; rw [h]; exact decide_eq_true (by omega)
theorem curOk_max (x : Int) (n : Nat) (M : Int) (hM : M = if 0 < (n : Int) - 1 then (n : Int) - 1 else 0) : inB x 0 M = curOk x n := by
  unfold curOk inB
  subst hM
  rw [Bool.eq_iff_iff]
  simp only [decide_eq_true_eq, Bool.or_eq_true, beq_iff_eq]
  split <;> omega
set_option maxRecDepth 100000 in
set_option maxHeartbeats 4000000 in
theorem badClosure (x : TRevocation) (w : World) :
    Calls Try.prog 93 #[.agg #[.int .i64 x.nd, .int .i64 x.ifc, .int .i64 x.til]] w fun e w' => e = .returned (.bool (badR x)) ∧ Mk0 w w' := by
  have M0 := Mk.alloc w (Obj.cells #[Value.int .i64 x.nd, Value.int .i64 x.ifc, Value.int .i64 x.til] 128)
  go_enter Try.func93, Try.ntmps93
  go_wp2_with fail
  refine (implVRev x.nd x.ifc x.til _).mono ?_
  rintro e w2 ⟨rfl, m2⟩
  go_wp2_with fail
  go_ret
  exact ⟨rfl, M0.trans m2⟩

set_option maxRecDepth 100000 in
set_option maxHeartbeats 4000000 in
theorem indexBad (a : Option Addr) (n c B : Nat) (R : List TRevocation) (w : World) (h : HasRevocation w B a n R) (hB : B ≤ w.heap.size) (hn : n ≤ 1048576) :
    Calls Try.prog 128 #[.slice a n c, .func (.func 93) #[] #[]] w fun e w' => e = .returned (.int .i64 (firstP badR R n n)) ∧ Mk0 w w' := by
  go_enter Try.func128, Try.ntmps128
  go_wp2_with fail
  go_loopw [4, 8] (fun r i wr => r = .int .i64 0 ∧ ∃ k : Nat, k ≤ n ∧ i = .int .i64 k ∧ Hid (firstP badR R n n = firstP badR R n (n - k)) ∧ Mk0 w wr) (fun _ i _ => n - (intOf i).toNat)
  case atStart => exact ⟨rfl, 0, Nat.zero_le _, rfl, rfl, Mk.refl _ _ _⟩
  case round =>
    obtain ⟨rfl, k, hk, rfl, hS, hM⟩ := hrel
    by_cases hlt : k < n
    · obtain ⟨b, off, x, rfl, hb, hx, d0, d1, d2⟩ := HasRevocation.at _ _ _ _ _ _ (h.mk hM hB (.inr (Nat.le_refl _))) hlt
      have hen : (callFunc 93 #[.agg #[.int .i64 x.nd, .int .i64 x.ifc, .int .i64 x.til]]).run Try.prog wr = .ok (.enter 93 #[.agg #[.int .i64 x.nd, .int .i64 x.ifc, .int .i64 x.til]]) wr := by kernel_rfl
      cases hp : badR x
      · have HE := Lib.hid (show firstP badR R n n = firstP badR R n (n - (k + 1)) by rw [hS.out]; exact firstP_go hlt (by rw [← hx.out, hp]))
        have HP := Lib.hid hp
        clear hp
        go_wp2_with fail
        refine (badClosure x _).mono ?_
        rintro e w2 ⟨he, m2⟩
        rw [HP.out] at he
        subst he
        go_wp2_with fail
        go_roundw
        case rel => exact ⟨rfl, k + 1, by omega, by go_num, HE.out, hM.trans m2⟩
        case measure => simp [intOf]; omega
      · have HE := Lib.hid (show firstP badR R n n = (k : Int) by rw [hS.out]; exact firstP_stop hlt (by rw [← hx.out, hp]))
        have HP := Lib.hid hp
        clear hp
        go_wp2_with fail
        refine (badClosure x _).mono ?_
        rintro e w2 ⟨he, m2⟩
        rw [HP.out] at he
        subst he
        go_wp2_with fail
        go_ret
        exact ⟨retI HE.out.symm, hM.trans m2⟩
    · obtain rfl : n = k := by omega
      go_wp2_with fail
      go_ret
      exact ⟨retI (by rw [hS.out, Nat.sub_self]; rfl), hM⟩

set_option maxRecDepth 100000 in
set_option maxHeartbeats 4000000 in
theorem containsBad (a : Option Addr) (n c B : Nat) (R : List TRevocation) (w : World) (h : HasRevocation w B a n R) (hB : B ≤ w.heap.size) (hn : n ≤ 1048576) :
    Calls Try.prog 77 #[.slice a n c, .func (.func 93) #[] #[]] w fun e w' => e = .returned (.bool (badB R n)) ∧ Mk0 w w' := by
  go_enter Try.func77, Try.ntmps77
  go_wp2_with fail
  refine (indexBad a n c B R _ h hB hn).mono ?_
  rintro e w2 ⟨rfl, m2⟩
  go_wp2_with fail
  go_ret
  exact ⟨rfl, m2⟩

set_option maxRecDepth 100000 in
set_option maxHeartbeats 4000000 in
theorem hasPth (q : Nat) (x6 : Int) (a5 : Option Addr) (n5 c5 : Nat) (w : World) (u6 : w.cell? ⟨q, 6, none⟩ = some (.int .i64 x6)) (u5 : w.cell? ⟨q, 5, none⟩ = some (.slice a5 n5 c5)) (hn : n5 ≤ 1048576) :
    Calls Try.prog 92 #[.pointer (some ⟨q, 0, none⟩)] w fun e w' => e = .returned (.bool (inB x6 0 ((n5 : Int) - 1))) ∧ Mk0 w w' := by
  have i3 : (n5 : Int) ≤ 1048576 := by omega
  have hwr : IntKind.i64.wrap ((n5 : Int) - 1) = (n5 : Int) - 1 := by rw [IntKind.wrap_i64]; omega
  go_enter Try.func92, Try.ntmps92
  go_wp2_with fail
  refine wp_region_wk (fun w' => Mk0 w w' ∧ w'.cell? ⟨q, 6, none⟩ = some (.int .i64 x6) ∧ w'.cell? ⟨q, 5, none⟩ = some (.slice a5 n5 c5)) (by kernel_rfl) (by kernel_rfl) (⟨Mk.drew1 _, u6, u5⟩) ?_
  change Wk _ _ _ _ 12 0 _
  first | (refine Wk.skip (m := 11) (k := 0) rfl (by rfl) ?_) | (refine Wk.step (m := 11) (k := 0) (v := _) rfl (by rfl) (fun wv hS => by obtain ⟨s0, s1, s2⟩ := hS; go_simp; try with_reducible rfl) ?_)
  try simp only [Act.put, List.getElem_toArray, List.getElem_cons_zero, List.setIfInBounds_toArray, List.set_cons_zero, List.set_cons_succ]
  first | (refine Wk.skip (m := 10) (k := 1) rfl (by rfl) ?_) | (refine Wk.step (m := 10) (k := 1) (v := _) rfl (by rfl) (fun wv hS => by obtain ⟨s0, s1, s2⟩ := hS; go_simp; try with_reducible rfl) ?_)
  try simp only [Act.put, List.getElem_toArray, List.getElem_cons_succ, List.getElem_cons_zero, List.setIfInBounds_toArray, List.set_cons_zero, List.set_cons_succ]
  first | (refine Wk.skip (m := 9) (k := 2) rfl (by rfl) ?_) | (refine Wk.step (m := 9) (k := 2) (v := _) rfl (by rfl) (fun wv hS => by obtain ⟨s0, s1, s2⟩ := hS; go_simp; try with_reducible rfl) ?_)
  try simp only [Act.put, List.getElem_toArray, List.getElem_cons_succ, List.getElem_cons_zero, List.setIfInBounds_toArray, List.set_cons_zero, List.set_cons_succ]
  first | (refine Wk.skip (m := 8) (k := 3) rfl (by rfl) ?_) | (refine Wk.step (m := 8) (k := 3) (v := _) rfl (by rfl) (fun wv hS => by obtain ⟨s0, s1, s2⟩ := hS; go_simp; try with_reducible rfl) ?_)
  try simp only [Act.put, List.getElem_toArray, List.getElem_cons_succ, List.getElem_cons_zero, List.setIfInBounds_toArray, List.set_cons_zero, List.set_cons_succ]
  first | (refine Wk.skip (m := 7) (k := 4) rfl (by rfl) ?_) | (refine Wk.step (m := 7) (k := 4) (v := _) rfl (by rfl) (fun wv hS => by obtain ⟨s0, s1, s2⟩ := hS; go_simp; try with_reducible rfl) ?_)
  try simp only [Act.put, List.getElem_toArray, List.getElem_cons_succ, List.getElem_cons_zero, List.setIfInBounds_toArray, List.set_cons_zero, List.set_cons_succ]
  first | (refine Wk.skip (m := 6) (k := 5) rfl (by rfl) ?_) | (refine Wk.step (m := 6) (k := 5) (v := _) rfl (by rfl) (fun wv hS => by obtain ⟨s0, s1, s2⟩ := hS; go_simp; try with_reducible rfl) ?_)
  try simp only [Act.put, List.getElem_toArray, List.getElem_cons_succ, List.getElem_cons_zero, List.setIfInBounds_toArray, List.set_cons_zero, List.set_cons_succ]
  first | (refine Wk.skip (m := 5) (k := 6) rfl (by rfl) ?_) | (refine Wk.step (m := 5) (k := 6) (v := _) rfl (by rfl) (fun wv hS => by obtain ⟨s0, s1, s2⟩ := hS; go_simp; try with_reducible rfl) ?_)
  try simp only [Act.put, List.getElem_toArray, List.getElem_cons_succ, List.getElem_cons_zero, List.setIfInBounds_toArray, List.set_cons_zero, List.set_cons_succ]
  first | (refine Wk.skip (m := 4) (k := 7) rfl (by rfl) ?_) | (refine Wk.step (m := 4) (k := 7) (v := _) rfl (by rfl) (fun wv hS => by obtain ⟨s0, s1, s2⟩ := hS; go_simp; try with_reducible rfl) ?_)
  try simp only [Act.put, List.getElem_toArray, List.getElem_cons_succ, List.getElem_cons_zero, List.setIfInBounds_toArray, List.set_cons_zero, List.set_cons_succ]
  first | (refine Wk.skip (m := 3) (k := 8) rfl (by rfl) ?_) | (refine Wk.step (m := 3) (k := 8) (v := _) rfl (by rfl) (fun wv hS => by obtain ⟨s0, s1, s2⟩ := hS; go_simp; try with_reducible rfl) ?_)
  try simp only [Act.put, List.getElem_toArray, List.getElem_cons_succ, List.getElem_cons_zero, List.setIfInBounds_toArray, List.set_cons_zero, List.set_cons_succ]
  first | (refine Wk.skip (m := 2) (k := 9) rfl (by rfl) ?_) | (refine Wk.step (m := 2) (k := 9) (v := _) rfl (by rfl) (fun wv hS => by obtain ⟨s0, s1, s2⟩ := hS; go_simp; try with_reducible rfl) ?_)
  try simp only [Act.put, List.getElem_toArray, List.getElem_cons_succ, List.getElem_cons_zero, List.setIfInBounds_toArray, List.set_cons_zero, List.set_cons_succ]
  refine Wk.call (m := 1) (k := 10) (v := .bool (inB x6 0 ((n5 : Int) - 1))) _ _ rfl (by rfl) (fun wv hS => by obtain ⟨s0, s1, s2⟩ := hS; go_simp; first | done | exact ⟨rfl, rfl⟩ | with_reducible rfl) (fun wv hS => ?_) ?_; · obtain ⟨s0, s1, s2⟩ := hS; refine (implIn _ _ _ wv).mono ?_; rintro e w' ⟨he, rfl⟩; exact ⟨by rw [he]; (try rw [hwr]), s0, s1, s2⟩
  try simp only [Act.put, List.getElem_toArray, List.getElem_cons_succ, List.getElem_cons_zero, List.setIfInBounds_toArray, List.set_cons_zero, List.set_cons_succ]
  first | (refine Wk.skip (m := 0) (k := 11) rfl (by rfl) ?_) | (refine Wk.step (m := 0) (k := 11) (v := _) rfl (by rfl) (fun wv hS => by obtain ⟨s0, s1, s2⟩ := hS; go_simp; try with_reducible rfl) ?_)
  try simp only [Act.put, List.getElem_toArray, List.getElem_cons_succ, List.getElem_cons_zero, List.setIfInBounds_toArray, List.set_cons_zero, List.set_cons_succ]
  refine Wk.done fun wE hE => ?_
  clear u6 u5
  obtain ⟨mE, u6, u5⟩ := hE
  go_wp2_with fail
  go_ret
  exact ⟨rfl, mE⟩

theorem vfl_assoc (x0 x1 x2 x3 x6 x7 : Int) (n4 : Nat) (z4 : List TMessage) (n5 : Nat) (n8 : Nat) (z8 : List TRevocation) : vFlB x0 x1 x2 x3 x6 x7 n4 z4 n5 n8 z8 =
    ((inB x0 0 7 && (inB x1 0 7 && !(x0 == x1))) && (inB x2 0 100000 && ((decide ((n4 : Int) ≤ 20) && !(longB z4 n4)) && (inB x3 0 (n4 : Int) && (decide ((n5 : Int) ≤ 24) && (curOk x6 n5 && (inB x7 0 4 && (decide ((n8 : Int) ≤ 16) && !(badB z8 n8))))))))) := by
  unfold vFlB
  simp only [Bool.and_assoc]
end Go.Proofs.Ytkmofhpipcodbaa
