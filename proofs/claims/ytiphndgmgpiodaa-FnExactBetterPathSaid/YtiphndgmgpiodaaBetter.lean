
/- BetterPath of both sides. -/
import Derived.Test.YtiphndgmgpiodaaStepI
import Derived.Test.YtiphndgmgpiodaaStepS
import Derived.Test.YtiphndgmgpiodaaPExp
import Derived.Test.YtiphndgmgpiodaaPDig
import Derived.Test.YtiphndgmgpiodaaWs
import Derived.Test.YtiphndgmgpiodaaRet
import Derived.Laws.EntriesVeiled
namespace Go.Proofs.Ytiphndgmgpiodaa
open Go.ChangeShapes Go.WideShapes Go.ChangeAt Go.RowKit
set_option linter.unusedVariables false
def cmpV (x y : Int) : Int := if x < y then -1 else if y < x then 1 else 0
def or3 (a b c : Int) : Int := if a = 0 then (if b = 0 then c else b) else a
/-- Whether the first is the better: shorter; of those, the one that lasts longer; of those, the one of the less digest. -/
def betB (la lb ea eb da db : Int) : Bool := if la = lb then (if ea = eb then decide (da < db) else decide (eb < ea)) else decide (la < lb)
theorem betB_or (la lb ea eb da db : Int) : decide (or3 (cmpV la lb) (cmpV eb ea) (cmpV da db) < 0) = betB la lb ea eb da db := by
  have hc : ∀ x y : Int, (x < y ∧ cmpV x y = -1) ∨ (x = y ∧ cmpV x y = 0) ∨ (y < x ∧ cmpV x y = 1) := fun x y => by
    unfold cmpV
    rcases Int.lt_trichotomy x y with h | h | h
    · exact .inl ⟨h, if_pos h⟩
    · subst h; exact .inr (.inl ⟨rfl, by rw [if_neg (Int.lt_irrefl _), if_neg (Int.lt_irrefl _)]⟩)
    · exact .inr (.inr ⟨h, by rw [if_neg (by omega), if_pos h]⟩)
  unfold betB or3
  rcases hc la lb with ⟨h1, e1⟩ | ⟨h1, e1⟩ | ⟨h1, e1⟩
  · rw [e1, if_neg (by decide), if_neg (by omega)]; exact (decide_eq_true (by decide)).trans (decide_eq_true h1).symm
  · rw [e1, if_pos rfl, if_pos h1]
    rcases hc eb ea with ⟨h2, e2⟩ | ⟨h2, e2⟩ | ⟨h2, e2⟩
    · rw [e2, if_neg (by decide), if_neg (by omega)]; exact (decide_eq_true (by decide)).trans (decide_eq_true h2).symm
    · rw [e2, if_pos rfl, if_pos h2.symm]
      rcases hc da db with ⟨h3, e3⟩ | ⟨h3, e3⟩ | ⟨h3, e3⟩
      · rw [e3]; exact (decide_eq_true (by decide)).trans (decide_eq_true h3).symm
      · rw [e3]; exact (decide_eq_false (by decide)).trans (decide_eq_false (by omega)).symm
      · rw [e3]; exact (decide_eq_false (by decide)).trans (decide_eq_false (by omega)).symm
    · rw [e2, if_neg (by decide), if_neg (by omega)]; exact (decide_eq_false (by decide)).trans (decide_eq_false (by omega)).symm
  · rw [e1, if_neg (by decide), if_neg (by omega)]; exact (decide_eq_false (by decide)).trans (decide_eq_false (by omega)).symm
set_option maxRecDepth 100000 in
set_option maxHeartbeats 4000000 in
theorem nanI (x : Int) (w : World) : Calls Try.prog 141 #[.int .i64 x] w fun e w' => e = .returned (.bool false) ∧ w = w' := by
  have hx : (x != x) = false := by simp
  go_enter Try.func141, Try.ntmps141
  go_wp2
  go_ret
  exact ⟨rfl, rfl⟩

set_option maxRecDepth 100000 in
set_option maxHeartbeats 4000000 in
theorem cmpI (x y : Int) (w : World) : Calls Try.prog 120 #[.int .i64 x, .int .i64 y] w fun e w' => e = .returned (.int .i64 (cmpV x y)) ∧ w = w' := by
  by_cases h : x < y
  · have HV := Lib.hid (show cmpV x y = -1 from if_pos h)
    go_enter Try.func120, Try.ntmps120
    go_wp2_with fail
    refine (nanI x _).mono ?_
    rintro e w' ⟨rfl, rfl⟩
    go_wp2_with fail
    refine (nanI y _).mono ?_
    rintro e w' ⟨rfl, rfl⟩
    go_wp2_with fail
    go_ret
    exact ⟨retI HV.out.symm, rfl⟩
  · by_cases h2 : y < x
    · have HV := Lib.hid (show cmpV x y = 1 by unfold cmpV; rw [if_neg h, if_pos h2])
      replace h : y ≤ x := by omega
      go_enter Try.func120, Try.ntmps120
      go_wp2_with fail
      refine (nanI x _).mono ?_
      rintro e w' ⟨rfl, rfl⟩
      go_wp2_with fail
      refine (nanI y _).mono ?_
      rintro e w' ⟨rfl, rfl⟩
      go_wp2_with fail
      go_ret
      exact ⟨retI HV.out.symm, rfl⟩
    · have HV := Lib.hid (show cmpV x y = 0 by unfold cmpV; rw [if_neg h, if_neg h2])
      replace h : y ≤ x := by omega
      replace h2 : x ≤ y := by omega
      go_enter Try.func120, Try.ntmps120
      go_wp2_with fail
      refine (nanI x _).mono ?_
      rintro e w' ⟨rfl, rfl⟩
      go_wp2_with fail
      refine (nanI y _).mono ?_
      rintro e w' ⟨rfl, rfl⟩
      go_wp2_with fail
      go_ret
      exact ⟨retI HV.out.symm, rfl⟩

set_option maxRecDepth 100000 in
set_option maxHeartbeats 4000000 in
theorem or3I (a b c : Int) (g : Nat) (w : World) (c0 : w.cell? ⟨g, 0, none⟩ = some (.int .i64 a)) (c1 : w.cell? ⟨g, 1, none⟩ = some (.int .i64 b)) (c2 : w.cell? ⟨g, 2, none⟩ = some (.int .i64 c)) : Calls Try.prog 119 #[.slice (some ⟨g, 0, none⟩) 3 3] w fun e w' => e = .returned (.int .i64 (or3 a b c)) ∧ w = w' := by
  go_enter Try.func119, Try.ntmps119
  go_wp2_with fail
  have K0 := Lib.hid c0
  have K1 := Lib.hid c1
  have K2 := Lib.hid c2
  go_loopw [5, 8] (fun v i wr => ∃ k : Nat, k ≤ 3 ∧ i = .int .i64 k ∧ ((0 < k → a = 0) ∧ (1 < k → b = 0)) ∧ (2 < k → c = 0) ∧ w = wr) (fun _ i _ => 3 - (intOf i).toNat)
  case atStart => exact ⟨0, by omega, rfl, ⟨fun h => absurd h (by omega), fun h => absurd h (by omega)⟩, fun h => absurd h (by omega), rfl⟩
  case round =>
    obtain ⟨k, hk, rfl, hz, hz2, rfl⟩ := hrel
    rcases (by omega : k = 0 ∨ k = 1 ∨ k = 2 ∨ k = 3) with rfl | rfl | rfl | rfl
    · cases q : (a == 0)
      · have HV := Lib.hid (show or3 a b c = a by unfold or3; rw [if_neg (by simpa using q)])
        have q' : (a != 0) = true := by simp only [bne, q]; rfl
        clear q
        go_wp2_with fail
        go_ret
        exact ⟨retI HV.out.symm, rfl⟩
      · have hq0 : a = 0 := by simpa using q
        have q' : (a != 0) = false := by simp only [bne, q]; rfl
        clear q
        have HQ := Lib.hid hq0
        clear hq0
        go_wp2_with fail
        go_roundw
        case rel => exact ⟨1, by omega, by first | rfl | go_num, ⟨fun _ => HQ.out, fun h => absurd h (by decide)⟩, fun h => absurd h (by decide), trivial⟩
        case measure => simp [intOf]
    · cases q : (b == 0)
      · have HV := Lib.hid (show or3 a b c = b by unfold or3; rw [if_pos (hz.1 (by decide)), if_neg (by simpa using q)])
        have q' : (b != 0) = true := by simp only [bne, q]; rfl
        clear q
        go_wp2_with fail
        go_ret
        exact ⟨retI HV.out.symm, rfl⟩
      · have hq0 : b = 0 := by simpa using q
        have q' : (b != 0) = false := by simp only [bne, q]; rfl
        clear q
        have HQ := Lib.hid hq0
        clear hq0
        go_wp2_with fail
        go_roundw
        case rel => exact ⟨2, by omega, by first | rfl | go_num, ⟨fun _ => hz.1 (by decide), fun _ => HQ.out⟩, fun h => absurd h (by decide), trivial⟩
        case measure => simp [intOf]
    · cases q : (c == 0)
      · have HV := Lib.hid (show or3 a b c = c by unfold or3; rw [if_pos (hz.1 (by decide)), if_pos (hz.2 (by decide))])
        have q' : (c != 0) = true := by simp only [bne, q]; rfl
        clear q
        go_wp2_with fail
        go_ret
        exact ⟨retI HV.out.symm, rfl⟩
      · have hq0 : c = 0 := by simpa using q
        have q' : (c != 0) = false := by simp only [bne, q]; rfl
        clear q
        have HQ := Lib.hid hq0
        clear hq0
        go_wp2_with fail
        go_roundw
        case rel => exact ⟨3, by omega, by first | rfl | go_num, ⟨fun _ => hz.1 (by decide), fun _ => hz.2 (by decide)⟩, fun _ => HQ.out, trivial⟩
        case measure => simp [intOf]
    · have HV := Lib.hid (show or3 a b c = 0 by unfold or3; rw [if_pos (hz.1 (by decide)), if_pos (hz.2 (by decide)), hz2 (by decide)])
      clear hz hz2
      go_wp2_with fail
      go_ret
      exact ⟨retI HV.out.symm, rfl⟩

set_option maxRecDepth 100000 in
set_option maxHeartbeats 4000000 in
theorem bestC (a0 a1 : Option Addr) (n0 c0 n1 c1 : Nat) (l0 e0 d0 l1 e1 d1 : Int) (w : World) :
    Calls Try.prog 118 #[.agg #[.slice a0 n0 c0, .int .i64 l0, .int .i64 e0, .int .i64 d0], .agg #[.slice a1 n1 c1, .int .i64 l1, .int .i64 e1, .int .i64 d1]] w fun e w' => e = .returned (.int .i64 (or3 (cmpV l0 l1) (cmpV e1 e0) (cmpV d0 d1))) ∧ Mk0 w w' := by
  have M0 := (Mk.alloc w (Obj.cells #[Value.slice a0 n0 c0, Value.int .i64 l0, Value.int .i64 e0, Value.int .i64 d0] 129)).new (Obj.cells #[Value.slice a1 n1 c1, Value.int .i64 l1, Value.int .i64 e1, Value.int .i64 d1] 129)
  have u1 : ((w.alloc (Obj.cells #[Value.slice a0 n0 c0, Value.int .i64 l0, Value.int .i64 e0, Value.int .i64 d0] 129)).alloc (Obj.cells #[Value.slice a1 n1 c1, Value.int .i64 l1, Value.int .i64 e1, Value.int .i64 d1] 129)).cell? ⟨w.heap.size, 1, none⟩ = some (.int .i64 l0) := by simp [go_sem]
  have u2 : ((w.alloc (Obj.cells #[Value.slice a0 n0 c0, Value.int .i64 l0, Value.int .i64 e0, Value.int .i64 d0] 129)).alloc (Obj.cells #[Value.slice a1 n1 c1, Value.int .i64 l1, Value.int .i64 e1, Value.int .i64 d1] 129)).cell? ⟨w.heap.size, 2, none⟩ = some (.int .i64 e0) := by simp [go_sem]
  have u3 : ((w.alloc (Obj.cells #[Value.slice a0 n0 c0, Value.int .i64 l0, Value.int .i64 e0, Value.int .i64 d0] 129)).alloc (Obj.cells #[Value.slice a1 n1 c1, Value.int .i64 l1, Value.int .i64 e1, Value.int .i64 d1] 129)).cell? ⟨w.heap.size, 3, none⟩ = some (.int .i64 d0) := by simp [go_sem]
  have t1 : ((w.alloc (Obj.cells #[Value.slice a0 n0 c0, Value.int .i64 l0, Value.int .i64 e0, Value.int .i64 d0] 129)).alloc (Obj.cells #[Value.slice a1 n1 c1, Value.int .i64 l1, Value.int .i64 e1, Value.int .i64 d1] 129)).cell? ⟨w.heap.size + 1, 1, none⟩ = some (.int .i64 l1) := by simp [go_sem]
  have t2 : ((w.alloc (Obj.cells #[Value.slice a0 n0 c0, Value.int .i64 l0, Value.int .i64 e0, Value.int .i64 d0] 129)).alloc (Obj.cells #[Value.slice a1 n1 c1, Value.int .i64 l1, Value.int .i64 e1, Value.int .i64 d1] 129)).cell? ⟨w.heap.size + 1, 2, none⟩ = some (.int .i64 e1) := by simp [go_sem]
  have t3 : ((w.alloc (Obj.cells #[Value.slice a0 n0 c0, Value.int .i64 l0, Value.int .i64 e0, Value.int .i64 d0] 129)).alloc (Obj.cells #[Value.slice a1 n1 c1, Value.int .i64 l1, Value.int .i64 e1, Value.int .i64 d1] 129)).cell? ⟨w.heap.size + 1, 3, none⟩ = some (.int .i64 d1) := by simp [go_sem]
  obtain ⟨P, HP⟩ : ∃ P, Hid (cmpV l0 l1 = P) := ⟨_, Lib.hid rfl⟩
  obtain ⟨Q, HQ⟩ : ∃ Q, Hid (cmpV e1 e0 = Q) := ⟨_, Lib.hid rfl⟩
  obtain ⟨R, HR⟩ : ∃ R, Hid (cmpV d0 d1 = R) := ⟨_, Lib.hid rfl⟩
  rw [HP.out, HQ.out, HR.out]
  go_enter Try.func118, Try.ntmps118
  go_wp2_with fail
  refine wp_region_wks (fun w' => Mk0 ((w.alloc (Obj.cells #[Value.slice a0 n0 c0, Value.int .i64 l0, Value.int .i64 e0, Value.int .i64 d0] 129)).alloc (Obj.cells #[Value.slice a1 n1 c1, Value.int .i64 l1, Value.int .i64 e1, Value.int .i64 d1] 129)) w' ∧ w'.cell? ⟨w.heap.size, 1, none⟩ = some (.int .i64 l0) ∧ w'.cell? ⟨w.heap.size, 2, none⟩ = some (.int .i64 e0) ∧ w'.cell? ⟨w.heap.size, 3, none⟩ = some (.int .i64 d0) ∧ w'.cell? ⟨w.heap.size + 1, 1, none⟩ = some (.int .i64 l1) ∧ w'.cell? ⟨w.heap.size + 1, 2, none⟩ = some (.int .i64 e1) ∧ w'.cell? ⟨w.heap.size + 1, 3, none⟩ = some (.int .i64 d1)) 15 17 (by kernel_rfl) (by kernel_rfl) (by kernel_rfl) (by decide) (by decide) (⟨Mk.drew1 _, u1, u2, u3, t1, t2, t3⟩) ?_
  change WkS _ _ _ _ _ _ 15 0 _
  first | (refine WkS.skip (m := 14) (k := 0) rfl (by rfl) ?_) | (refine WkS.pure (m := 14) (k := 0) (v := _) rfl (by rfl) (fun wv => by go_simp; try with_reducible rfl) ?_) | (refine WkS.step (m := 14) (k := 0) (v := _) rfl (by rfl) (by kernel_rfl) (fun wv hS => by obtain ⟨s0, s1, s2, s3, s4, s5, s6⟩ := hS; go_simp; try with_reducible rfl) ?_)
  try simp only [Act.put, List.getElem_toArray, List.getElem_cons_zero, List.setIfInBounds_toArray, List.set_cons_zero, List.set_cons_succ]
  first | (refine WkS.skip (m := 13) (k := 1) rfl (by rfl) ?_) | (refine WkS.pure (m := 13) (k := 1) (v := _) rfl (by rfl) (fun wv => by go_simp; try with_reducible rfl) ?_) | (refine WkS.step (m := 13) (k := 1) (v := _) rfl (by rfl) (by kernel_rfl) (fun wv hS => by obtain ⟨s0, s1, s2, s3, s4, s5, s6⟩ := hS; go_simp; try with_reducible rfl) ?_)
  try simp only [Act.put, List.getElem_toArray, List.getElem_cons_succ, List.getElem_cons_zero, List.setIfInBounds_toArray, List.set_cons_zero, List.set_cons_succ]
  first | (refine WkS.skip (m := 12) (k := 2) rfl (by rfl) ?_) | (refine WkS.pure (m := 12) (k := 2) (v := _) rfl (by rfl) (fun wv => by go_simp; try with_reducible rfl) ?_) | (refine WkS.step (m := 12) (k := 2) (v := _) rfl (by rfl) (by kernel_rfl) (fun wv hS => by obtain ⟨s0, s1, s2, s3, s4, s5, s6⟩ := hS; go_simp; try with_reducible rfl) ?_)
  try simp only [Act.put, List.getElem_toArray, List.getElem_cons_succ, List.getElem_cons_zero, List.setIfInBounds_toArray, List.set_cons_zero, List.set_cons_succ]
  first | (refine WkS.skip (m := 11) (k := 3) rfl (by rfl) ?_) | (refine WkS.pure (m := 11) (k := 3) (v := _) rfl (by rfl) (fun wv => by go_simp; try with_reducible rfl) ?_) | (refine WkS.step (m := 11) (k := 3) (v := _) rfl (by rfl) (by kernel_rfl) (fun wv hS => by obtain ⟨s0, s1, s2, s3, s4, s5, s6⟩ := hS; go_simp; try with_reducible rfl) ?_)
  try simp only [Act.put, List.getElem_toArray, List.getElem_cons_succ, List.getElem_cons_zero, List.setIfInBounds_toArray, List.set_cons_zero, List.set_cons_succ]
  refine WkS.call (m := 10) (k := 4) (v := .int .i64 P) _ _ rfl (by rfl) (by kernel_rfl) (fun wv hS => by obtain ⟨s0, s1, s2, s3, s4, s5, s6⟩ := hS; go_simp; first | done | exact ⟨rfl, rfl⟩ | with_reducible rfl) (fun wv hS => ?_) ?_; · obtain ⟨s0, s1, s2, s3, s4, s5, s6⟩ := hS; refine (cmpI l0 l1 wv).mono ?_; rintro e w' ⟨he, rfl⟩; exact ⟨by rw [he, HP.out], ⟨s0, s1, s2, s3, s4, s5, s6⟩, Mk.refl _ _ _⟩
  try simp only [Act.put, List.getElem_toArray, List.getElem_cons_succ, List.getElem_cons_zero, List.setIfInBounds_toArray, List.set_cons_zero, List.set_cons_succ]
  first | (refine WkS.skip (m := 9) (k := 5) rfl (by rfl) ?_) | (refine WkS.pure (m := 9) (k := 5) (v := _) rfl (by rfl) (fun wv => by go_simp; try with_reducible rfl) ?_) | (refine WkS.step (m := 9) (k := 5) (v := _) rfl (by rfl) (by kernel_rfl) (fun wv hS => by obtain ⟨s0, s1, s2, s3, s4, s5, s6⟩ := hS; go_simp; try with_reducible rfl) ?_)
  try simp only [Act.put, List.getElem_toArray, List.getElem_cons_succ, List.getElem_cons_zero, List.setIfInBounds_toArray, List.set_cons_zero, List.set_cons_succ]
  first | (refine WkS.skip (m := 8) (k := 6) rfl (by rfl) ?_) | (refine WkS.pure (m := 8) (k := 6) (v := _) rfl (by rfl) (fun wv => by go_simp; try with_reducible rfl) ?_) | (refine WkS.step (m := 8) (k := 6) (v := _) rfl (by rfl) (by kernel_rfl) (fun wv hS => by obtain ⟨s0, s1, s2, s3, s4, s5, s6⟩ := hS; go_simp; try with_reducible rfl) ?_)
  try simp only [Act.put, List.getElem_toArray, List.getElem_cons_succ, List.getElem_cons_zero, List.setIfInBounds_toArray, List.set_cons_zero, List.set_cons_succ]
  first | (refine WkS.skip (m := 7) (k := 7) rfl (by rfl) ?_) | (refine WkS.pure (m := 7) (k := 7) (v := _) rfl (by rfl) (fun wv => by go_simp; try with_reducible rfl) ?_) | (refine WkS.step (m := 7) (k := 7) (v := _) rfl (by rfl) (by kernel_rfl) (fun wv hS => by obtain ⟨s0, s1, s2, s3, s4, s5, s6⟩ := hS; go_simp; try with_reducible rfl) ?_)
  try simp only [Act.put, List.getElem_toArray, List.getElem_cons_succ, List.getElem_cons_zero, List.setIfInBounds_toArray, List.set_cons_zero, List.set_cons_succ]
  first | (refine WkS.skip (m := 6) (k := 8) rfl (by rfl) ?_) | (refine WkS.pure (m := 6) (k := 8) (v := _) rfl (by rfl) (fun wv => by go_simp; try with_reducible rfl) ?_) | (refine WkS.step (m := 6) (k := 8) (v := _) rfl (by rfl) (by kernel_rfl) (fun wv hS => by obtain ⟨s0, s1, s2, s3, s4, s5, s6⟩ := hS; go_simp; try with_reducible rfl) ?_)
  try simp only [Act.put, List.getElem_toArray, List.getElem_cons_succ, List.getElem_cons_zero, List.setIfInBounds_toArray, List.set_cons_zero, List.set_cons_succ]
  refine WkS.call (m := 5) (k := 9) (v := .int .i64 Q) _ _ rfl (by rfl) (by kernel_rfl) (fun wv hS => by obtain ⟨s0, s1, s2, s3, s4, s5, s6⟩ := hS; go_simp; first | done | exact ⟨rfl, rfl⟩ | with_reducible rfl) (fun wv hS => ?_) ?_; · obtain ⟨s0, s1, s2, s3, s4, s5, s6⟩ := hS; refine (cmpI e1 e0 wv).mono ?_; rintro e w' ⟨he, rfl⟩; exact ⟨by rw [he, HQ.out], ⟨s0, s1, s2, s3, s4, s5, s6⟩, Mk.refl _ _ _⟩
  try simp only [Act.put, List.getElem_toArray, List.getElem_cons_succ, List.getElem_cons_zero, List.setIfInBounds_toArray, List.set_cons_zero, List.set_cons_succ]
  first | (refine WkS.skip (m := 4) (k := 10) rfl (by rfl) ?_) | (refine WkS.pure (m := 4) (k := 10) (v := _) rfl (by rfl) (fun wv => by go_simp; try with_reducible rfl) ?_) | (refine WkS.step (m := 4) (k := 10) (v := _) rfl (by rfl) (by kernel_rfl) (fun wv hS => by obtain ⟨s0, s1, s2, s3, s4, s5, s6⟩ := hS; go_simp; try with_reducible rfl) ?_)
  try simp only [Act.put, List.getElem_toArray, List.getElem_cons_succ, List.getElem_cons_zero, List.setIfInBounds_toArray, List.set_cons_zero, List.set_cons_succ]
  first | (refine WkS.skip (m := 3) (k := 11) rfl (by rfl) ?_) | (refine WkS.pure (m := 3) (k := 11) (v := _) rfl (by rfl) (fun wv => by go_simp; try with_reducible rfl) ?_) | (refine WkS.step (m := 3) (k := 11) (v := _) rfl (by rfl) (by kernel_rfl) (fun wv hS => by obtain ⟨s0, s1, s2, s3, s4, s5, s6⟩ := hS; go_simp; try with_reducible rfl) ?_)
  try simp only [Act.put, List.getElem_toArray, List.getElem_cons_succ, List.getElem_cons_zero, List.setIfInBounds_toArray, List.set_cons_zero, List.set_cons_succ]
  first | (refine WkS.skip (m := 2) (k := 12) rfl (by rfl) ?_) | (refine WkS.pure (m := 2) (k := 12) (v := _) rfl (by rfl) (fun wv => by go_simp; try with_reducible rfl) ?_) | (refine WkS.step (m := 2) (k := 12) (v := _) rfl (by rfl) (by kernel_rfl) (fun wv hS => by obtain ⟨s0, s1, s2, s3, s4, s5, s6⟩ := hS; go_simp; try with_reducible rfl) ?_)
  try simp only [Act.put, List.getElem_toArray, List.getElem_cons_succ, List.getElem_cons_zero, List.setIfInBounds_toArray, List.set_cons_zero, List.set_cons_succ]
  first | (refine WkS.skip (m := 1) (k := 13) rfl (by rfl) ?_) | (refine WkS.pure (m := 1) (k := 13) (v := _) rfl (by rfl) (fun wv => by go_simp; try with_reducible rfl) ?_) | (refine WkS.step (m := 1) (k := 13) (v := _) rfl (by rfl) (by kernel_rfl) (fun wv hS => by obtain ⟨s0, s1, s2, s3, s4, s5, s6⟩ := hS; go_simp; try with_reducible rfl) ?_)
  try simp only [Act.put, List.getElem_toArray, List.getElem_cons_succ, List.getElem_cons_zero, List.setIfInBounds_toArray, List.set_cons_zero, List.set_cons_succ]
  refine WkS.call (m := 0) (k := 14) (v := .int .i64 R) _ _ rfl (by rfl) (by kernel_rfl) (fun wv hS => by obtain ⟨s0, s1, s2, s3, s4, s5, s6⟩ := hS; go_simp; first | done | exact ⟨rfl, rfl⟩ | with_reducible rfl) (fun wv hS => ?_) ?_; · obtain ⟨s0, s1, s2, s3, s4, s5, s6⟩ := hS; refine (cmpI d0 d1 wv).mono ?_; rintro e w' ⟨he, rfl⟩; exact ⟨by rw [he, HR.out], ⟨s0, s1, s2, s3, s4, s5, s6⟩, Mk.refl _ _ _⟩
  try simp only [Act.put, List.getElem_toArray, List.getElem_cons_succ, List.getElem_cons_zero, List.setIfInBounds_toArray, List.set_cons_zero, List.set_cons_succ]
  refine WkS.done fun wE hE => ?_
  clear u1 u2 u3 t1 t2 t3
  obtain ⟨mE, u1, u2, u3, t1, t2, t3⟩ := hE
  have zE0 := mE.size
  change wpSoft _ _ _ _ 17 2 _ _
  refine wpSoft.value (n := 1) (w1 := (wE.alloc (Obj.cells #[Value.int .i64 P, Value.int .i64 Q, Value.int .i64 R] 3))) _ rfl (by rfl) (by go_simp; first | done | exact ⟨rfl, rfl⟩ | with_reducible rfl) ⟨mE.trans (Mk.alloc wE (Obj.cells #[Value.int .i64 P, Value.int .i64 Q, Value.int .i64 R] 3)), (Mk.alloc wE (Obj.cells #[Value.int .i64 P, Value.int .i64 Q, Value.int .i64 R] 3)).cellAt u1, (Mk.alloc wE (Obj.cells #[Value.int .i64 P, Value.int .i64 Q, Value.int .i64 R] 3)).cellAt u2, (Mk.alloc wE (Obj.cells #[Value.int .i64 P, Value.int .i64 Q, Value.int .i64 R] 3)).cellAt u3, (Mk.alloc wE (Obj.cells #[Value.int .i64 P, Value.int .i64 Q, Value.int .i64 R] 3)).cellAt t1, (Mk.alloc wE (Obj.cells #[Value.int .i64 P, Value.int .i64 Q, Value.int .i64 R] 3)).cellAt t2, (Mk.alloc wE (Obj.cells #[Value.int .i64 P, Value.int .i64 Q, Value.int .i64 R] 3)).cellAt t3⟩ ?_
  have g0 : (wE.alloc (Obj.cells #[Value.int .i64 P, Value.int .i64 Q, Value.int .i64 R] 3)).cell? ⟨wE.heap.size, 0, none⟩ = some (.int .i64 P) := by simp [go_sem]
  have g1 : (wE.alloc (Obj.cells #[Value.int .i64 P, Value.int .i64 Q, Value.int .i64 R] 3)).cell? ⟨wE.heap.size, 1, none⟩ = some (.int .i64 Q) := by simp [go_sem]
  have g2 : (wE.alloc (Obj.cells #[Value.int .i64 P, Value.int .i64 Q, Value.int .i64 R] 3)).cell? ⟨wE.heap.size, 2, none⟩ = some (.int .i64 R) := by simp [go_sem]
  intro wG0 mG0 hG0
  clear mE u1 u2 u3 t1 t2 t3
  obtain ⟨mE, u1, u2, u3, t1, t2, t3⟩ := hG0
  replace g0 := mG0.cellAt g0
  replace g1 := mG0.cellAt g1
  replace g2 := mG0.cellAt g2
  try simp only [Act.put, List.getElem_toArray, List.getElem_cons_succ, List.getElem_cons_zero, List.setIfInBounds_toArray, List.set_cons_zero, List.set_cons_succ]
  change wpSoft _ _ _ _ 17 1 _ _
  refine wpSoft.call (n := 0) _ _ rfl (by rfl) (by go_simp; first | done | exact ⟨rfl, rfl⟩ | with_reducible rfl) ?_
  refine (or3I P Q R wE.heap.size _ g0 g1 g2).mono ?_
  rintro e wF1 ⟨rfl, rfl⟩
  refine ⟨_, rfl, ⟨mE.trans (Mk.refl _ _ _), (Mk.refl _ _ _).cellAt u1, (Mk.refl _ _ _).cellAt u2, (Mk.refl _ _ _).cellAt u3, (Mk.refl _ _ _).cellAt t1, (Mk.refl _ _ _).cellAt t2, (Mk.refl _ _ _).cellAt t3⟩, ?_⟩
  intro wG1 mG1 hG1
  clear mE u1 u2 u3 t1 t2 t3
  obtain ⟨mE, u1, u2, u3, t1, t2, t3⟩ := hG1
  try simp only [Act.put, List.getElem_toArray, List.getElem_cons_succ, List.getElem_cons_zero, List.setIfInBounds_toArray, List.set_cons_zero, List.set_cons_succ]
  refine wpSoft.done ?_
  simp only [List.drop_succ_cons, List.drop_zero]
  go_wp2_with fail
  try simp only [noPan]
  try (go_wp2_with fail)
  go_ret
  exact ⟨rfl, M0.trans mE⟩

set_option maxRecDepth 100000 in
set_option maxHeartbeats 4000000 in
theorem bestF (w : World) : Calls Try.prog 83 #[] w fun e w' => e = .returned (.agg #[.func (.func 118) #[] #[]]) ∧ Mk0 w w' := by
  go_enter Try.func83, Try.ntmps83
  go_wp2_with fail
  refine bodyPost_ret (v := .agg #[.func (.func 118) #[] #[]]) (by simp [results, Try.results83, go_sem]) rfl ⟨rfl, Mk.of_below ?_⟩
  go_grown

set_option maxRecDepth 100000 in
set_option maxHeartbeats 4000000 in
theorem rankP (a : Option Addr) (n c B : Nat) (ps : List TPathPart) (w : World) (h : HasPathPart w B a n ps) (hB : B ≤ w.heap.size) (hn : szPathPart ps n ≤ 1048576) (hf : ∀ y ∈ ps, TPathPart.fits y) :
    Calls Try.prog 84 #[.agg #[.slice a n c]] w fun e w' => e = .returned (.agg #[.slice a n c, .int .i64 (((pathSt ps n).length : Nat) : Int), .int .i64 (pathExp ps n), .int .i64 (pdV ps n)]) ∧ Mk0 w w' := by
  have M0 := (Mk.alloc w (Obj.cells #[Value.slice a n c] 75)).new (Obj.cells #[Value.slice none 0 0, Value.int .i64 0, Value.int .i64 0, Value.int .i64 0] 129)
  have k0 : ((w.alloc (Obj.cells #[Value.slice a n c] 75)).alloc (Obj.cells #[Value.slice none 0 0, Value.int .i64 0, Value.int .i64 0, Value.int .i64 0] 129)).cell? ⟨w.heap.size, 0, none⟩ = some (.slice a n c) := by simp [go_sem]
  have r0 : ((w.alloc (Obj.cells #[Value.slice a n c] 75)).alloc (Obj.cells #[Value.slice none 0 0, Value.int .i64 0, Value.int .i64 0, Value.int .i64 0] 129)).cell? ⟨w.heap.size + 1, 0, none⟩ = some (.slice none 0 0) := by simp [go_sem]
  have r1 : ((w.alloc (Obj.cells #[Value.slice a n c] 75)).alloc (Obj.cells #[Value.slice none 0 0, Value.int .i64 0, Value.int .i64 0, Value.int .i64 0] 129)).cell? ⟨w.heap.size + 1, 1, none⟩ = some (.int .i64 0) := by simp [go_sem]
  have r2 : ((w.alloc (Obj.cells #[Value.slice a n c] 75)).alloc (Obj.cells #[Value.slice none 0 0, Value.int .i64 0, Value.int .i64 0, Value.int .i64 0] 129)).cell? ⟨w.heap.size + 1, 2, none⟩ = some (.int .i64 0) := by simp [go_sem]
  have r3 : ((w.alloc (Obj.cells #[Value.slice a n c] 75)).alloc (Obj.cells #[Value.slice none 0 0, Value.int .i64 0, Value.int .i64 0, Value.int .i64 0] 129)).cell? ⟨w.heap.size + 1, 3, none⟩ = some (.int .i64 0) := by simp [go_sem]
  have fr : ∀ q, ((w.alloc (Obj.cells #[Value.slice a n c] 75)).alloc (Obj.cells #[Value.slice none 0 0, Value.int .i64 0, Value.int .i64 0, Value.int .i64 0] 129)).frozen? ⟨w.heap.size + 1, q, none⟩ = false := fun q => by simp [go_sem]
  have hs2 : ((w.alloc (Obj.cells #[Value.slice a n c] 75)).alloc (Obj.cells #[Value.slice none 0 0, Value.int .i64 0, Value.int .i64 0, Value.int .i64 0] 129)).heap.size = w.heap.size + 1 + 1 := by simp only [World.size_alloc]
  obtain ⟨PL, HPL⟩ : ∃ PL : Int, Hid ((((pathSt ps n).length : Nat) : Int) = PL) := ⟨_, Lib.hid rfl⟩
  obtain ⟨PE, HPE⟩ : ∃ PE : Int, Hid (pathExp ps n = PE) := ⟨_, Lib.hid rfl⟩
  obtain ⟨PD, HPD⟩ : ∃ PD : Int, Hid (pdV ps n = PD) := ⟨_, Lib.hid rfl⟩
  rw [HPL.out, HPE.out, HPD.out]
  go_enter Try.func84, Try.ntmps84
  go_wp2_with fail
  refine wp_region_wkt (fun w' => Mk0 ((w.alloc (Obj.cells #[Value.slice a n c] 75)).alloc (Obj.cells #[Value.slice none 0 0, Value.int .i64 0, Value.int .i64 0, Value.int .i64 0] 129)) w' ∧ w'.cell? ⟨w.heap.size, 0, none⟩ = some (.slice a n c) ∧ w'.cell? ⟨w.heap.size + 1, 0, none⟩ = some (.slice none 0 0) ∧ w'.cell? ⟨w.heap.size + 1, 1, none⟩ = some (.int .i64 0) ∧ w'.cell? ⟨w.heap.size + 1, 2, none⟩ = some (.int .i64 0) ∧ w'.cell? ⟨w.heap.size + 1, 3, none⟩ = some (.int .i64 0)) 8 (by kernel_rfl) (by kernel_rfl) (by kernel_rfl) (by decide) (⟨Mk.drew1 _, k0, r0, r1, r2, r3⟩) ?_
  change WkT _ _ _ _ _ 8 0 _
  first | (refine WkT.skip (m := 7) (k := 0) rfl (by rfl) ?_) | (refine WkT.pure (m := 7) (k := 0) (v := _) rfl (by rfl) (fun wv => by go_simp; try with_reducible rfl) ?_) | (refine WkT.step (m := 7) (k := 0) (v := _) rfl (by rfl) (by kernel_rfl) (fun wv hS => by obtain ⟨s0, s1, s2, s3, s4, s5⟩ := hS; go_simp; try with_reducible rfl) ?_)
  try simp only [Act.put, List.getElem_toArray, List.getElem_cons_zero, List.setIfInBounds_toArray, List.set_cons_zero, List.set_cons_succ]
  first | (refine WkT.skip (m := 6) (k := 1) rfl (by rfl) ?_) | (refine WkT.pure (m := 6) (k := 1) (v := _) rfl (by rfl) (fun wv => by go_simp; try with_reducible rfl) ?_) | (refine WkT.step (m := 6) (k := 1) (v := _) rfl (by rfl) (by kernel_rfl) (fun wv hS => by obtain ⟨s0, s1, s2, s3, s4, s5⟩ := hS; go_simp; try with_reducible rfl) ?_)
  try simp only [Act.put, List.getElem_toArray, List.getElem_cons_succ, List.getElem_cons_zero, List.setIfInBounds_toArray, List.set_cons_zero, List.set_cons_succ]
  refine WkT.call (m := 5) (k := 2) (v := .int .i64 PL) _ _ rfl (by rfl) (by kernel_rfl) (fun wv hS => by obtain ⟨s0, s1, s2, s3, s4, s5⟩ := hS; go_simp; first | done | exact ⟨rfl, rfl⟩ | with_reducible rfl) (fun wv hS => ?_) ?_; · obtain ⟨s0, s1, s2, s3, s4, s5⟩ := hS; refine (implPLen a n c B ps wv (h.mk (M0.trans s0) hB (.inr (Nat.le_refl _))) (Nat.le_trans hB (M0.trans s0).size) hn).mono ?_; rintro e w' ⟨he, mm⟩; exact ⟨by rw [he, HPL.out], s0.trans mm, mm.cellAt s1, mm.cellAt s2, mm.cellAt s3, mm.cellAt s4, mm.cellAt s5⟩
  try simp only [Act.put, List.getElem_toArray, List.getElem_cons_succ, List.getElem_cons_zero, List.setIfInBounds_toArray, List.set_cons_zero, List.set_cons_succ]
  first | (refine WkT.skip (m := 4) (k := 3) rfl (by rfl) ?_) | (refine WkT.pure (m := 4) (k := 3) (v := _) rfl (by rfl) (fun wv => by go_simp; try with_reducible rfl) ?_) | (refine WkT.step (m := 4) (k := 3) (v := _) rfl (by rfl) (by kernel_rfl) (fun wv hS => by obtain ⟨s0, s1, s2, s3, s4, s5⟩ := hS; go_simp; try with_reducible rfl) ?_)
  try simp only [Act.put, List.getElem_toArray, List.getElem_cons_succ, List.getElem_cons_zero, List.setIfInBounds_toArray, List.set_cons_zero, List.set_cons_succ]
  refine WkT.call (m := 3) (k := 4) (v := .int .i64 PE) _ _ rfl (by rfl) (by kernel_rfl) (fun wv hS => by obtain ⟨s0, s1, s2, s3, s4, s5⟩ := hS; go_simp; first | done | exact ⟨rfl, rfl⟩ | with_reducible rfl) (fun wv hS => ?_) ?_; · obtain ⟨s0, s1, s2, s3, s4, s5⟩ := hS; refine (implPExp a n c B ps wv (h.mk (M0.trans s0) hB (.inr (Nat.le_refl _))) (Nat.le_trans hB (M0.trans s0).size) hn).mono ?_; rintro e w' ⟨he, mm⟩; exact ⟨by rw [he, HPE.out], s0.trans mm, mm.cellAt s1, mm.cellAt s2, mm.cellAt s3, mm.cellAt s4, mm.cellAt s5⟩
  try simp only [Act.put, List.getElem_toArray, List.getElem_cons_succ, List.getElem_cons_zero, List.setIfInBounds_toArray, List.set_cons_zero, List.set_cons_succ]
  first | (refine WkT.skip (m := 2) (k := 5) rfl (by rfl) ?_) | (refine WkT.pure (m := 2) (k := 5) (v := _) rfl (by rfl) (fun wv => by go_simp; try with_reducible rfl) ?_) | (refine WkT.step (m := 2) (k := 5) (v := _) rfl (by rfl) (by kernel_rfl) (fun wv hS => by obtain ⟨s0, s1, s2, s3, s4, s5⟩ := hS; go_simp; try with_reducible rfl) ?_)
  try simp only [Act.put, List.getElem_toArray, List.getElem_cons_succ, List.getElem_cons_zero, List.setIfInBounds_toArray, List.set_cons_zero, List.set_cons_succ]
  refine WkT.call (m := 1) (k := 6) (v := .int .i64 PD) _ _ rfl (by rfl) (by kernel_rfl) (fun wv hS => by obtain ⟨s0, s1, s2, s3, s4, s5⟩ := hS; go_simp; first | done | exact ⟨rfl, rfl⟩ | with_reducible rfl) (fun wv hS => ?_) ?_; · obtain ⟨s0, s1, s2, s3, s4, s5⟩ := hS; refine (implPDig a n c B ps wv (h.mk (M0.trans s0) hB (.inr (Nat.le_refl _))) (Nat.le_trans hB (M0.trans s0).size) hn hf).mono ?_; rintro e w' ⟨he, mm⟩; exact ⟨by rw [he, HPD.out], s0.trans mm, mm.cellAt s1, mm.cellAt s2, mm.cellAt s3, mm.cellAt s4, mm.cellAt s5⟩
  try simp only [Act.put, List.getElem_toArray, List.getElem_cons_succ, List.getElem_cons_zero, List.setIfInBounds_toArray, List.set_cons_zero, List.set_cons_succ]
  first | (refine WkT.skip (m := 0) (k := 7) rfl (by rfl) ?_) | (refine WkT.pure (m := 0) (k := 7) (v := _) rfl (by rfl) (fun wv => by go_simp; try with_reducible rfl) ?_) | (refine WkT.step (m := 0) (k := 7) (v := _) rfl (by rfl) (by kernel_rfl) (fun wv hS => by obtain ⟨s0, s1, s2, s3, s4, s5⟩ := hS; go_simp; try with_reducible rfl) ?_)
  try simp only [Act.put, List.getElem_toArray, List.getElem_cons_succ, List.getElem_cons_zero, List.setIfInBounds_toArray, List.set_cons_zero, List.set_cons_succ]
  refine WkT.done fun wE hE => ?_
  clear k0 r0 r1 r2 r3
  obtain ⟨mE, k0, r0, r1, r2, r3⟩ := hE
  simp only [List.drop_succ_cons, List.drop_zero]
  have fr3 : ∀ q, wE.frozen? ⟨w.heap.size + 1, q, none⟩ = false := fun q => (mE.frozen (b := w.heap.size + 1) (o := q) (by omega) (.inr (Nat.zero_le _))).trans (fr q)
  replace M0 := M0.trans mE
  clear mE fr
  go_wp2_with fail
  try simp only [noPan]
  try (go_wp2_with fail)
  replace r0 := World.cell?_setCell_same _ _ (.slice a n c) r0
  replace r1 := cell_set r1 ⟨w.heap.size + 1, 0, none⟩ (.slice a n c) (.inr (by simp))
  replace r2 := cell_set r2 ⟨w.heap.size + 1, 0, none⟩ (.slice a n c) (.inr (by simp))
  replace r3 := cell_set r3 ⟨w.heap.size + 1, 0, none⟩ (.slice a n c) (.inr (by simp))
  replace M0 := M0.put ⟨w.heap.size + 1, 0, none⟩ (.slice a n c) (show w.heap.size ≤ w.heap.size + 1 from by omega)
  replace r0 := cell_set r0 ⟨w.heap.size + 1, 1, none⟩ (.int .i64 PL) (.inr (by simp))
  replace r1 := World.cell?_setCell_same _ _ (.int .i64 PL) r1
  replace r2 := cell_set r2 ⟨w.heap.size + 1, 1, none⟩ (.int .i64 PL) (.inr (by simp))
  replace r3 := cell_set r3 ⟨w.heap.size + 1, 1, none⟩ (.int .i64 PL) (.inr (by simp))
  replace M0 := M0.put ⟨w.heap.size + 1, 1, none⟩ (.int .i64 PL) (show w.heap.size ≤ w.heap.size + 1 from by omega)
  replace r0 := cell_set r0 ⟨w.heap.size + 1, 2, none⟩ (.int .i64 PE) (.inr (by simp))
  replace r1 := cell_set r1 ⟨w.heap.size + 1, 2, none⟩ (.int .i64 PE) (.inr (by simp))
  replace r2 := World.cell?_setCell_same _ _ (.int .i64 PE) r2
  replace r3 := cell_set r3 ⟨w.heap.size + 1, 2, none⟩ (.int .i64 PE) (.inr (by simp))
  replace M0 := M0.put ⟨w.heap.size + 1, 2, none⟩ (.int .i64 PE) (show w.heap.size ≤ w.heap.size + 1 from by omega)
  replace r0 := cell_set r0 ⟨w.heap.size + 1, 3, none⟩ (.int .i64 PD) (.inr (by simp))
  replace r1 := cell_set r1 ⟨w.heap.size + 1, 3, none⟩ (.int .i64 PD) (.inr (by simp))
  replace r2 := cell_set r2 ⟨w.heap.size + 1, 3, none⟩ (.int .i64 PD) (.inr (by simp))
  replace r3 := World.cell?_setCell_same _ _ (.int .i64 PD) r3
  replace M0 := M0.put ⟨w.heap.size + 1, 3, none⟩ (.int .i64 PD) (show w.heap.size ≤ w.heap.size + 1 from by omega)
  generalize ((((wE.setCell ⟨w.heap.size + 1, 0, none⟩ (.slice a n c)).setCell ⟨w.heap.size + 1, 1, none⟩ (.int .i64 PL)).setCell ⟨w.heap.size + 1, 2, none⟩ (.int .i64 PE)).setCell ⟨w.heap.size + 1, 3, none⟩ (.int .i64 PD)) = WF at *
  exact bodyPost_ret (v := .agg #[.slice a n c, .int .i64 PL, .int .i64 PE, .int .i64 PD]) (by simp [results, Try.results84, go_sem, r0, r1, r2, r3]) rfl ⟨rfl, M0⟩

set_option maxRecDepth 100000 in
set_option maxHeartbeats 4000000 in
theorem implBetter (a b : Option Addr) (n c m d B B' : Nat) (ps qs : List TPathPart) (w : World) (h : HasPathPart w B a n ps) (h' : HasPathPart w B' b m qs) (hB : B ≤ w.heap.size) (hB' : B' ≤ w.heap.size) (hn : szPathPart ps n ≤ 1048576) (hn' : szPathPart qs m ≤ 1048576) (hf : ∀ y ∈ ps, TPathPart.fits y) (hf' : ∀ y ∈ qs, TPathPart.fits y) :
    Calls Try.prog 39 #[.agg #[.slice a n c], .agg #[.slice b m d]] w fun e w' => e = .returned (.bool (betB (((pathSt ps n).length : Nat) : Int) (((pathSt qs m).length : Nat) : Int) (pathExp ps n) (pathExp qs m) (pdV ps n) (pdV qs m))) ∧ Mk0 w w' := by
  have M0 := (Mk.alloc w (Obj.cells #[Value.slice a n c] 75)).new (Obj.cells #[Value.slice b m d] 75)
  have k0 : ((w.alloc (Obj.cells #[Value.slice a n c] 75)).alloc (Obj.cells #[Value.slice b m d] 75)).cell? ⟨w.heap.size, 0, none⟩ = some (.slice a n c) := by simp [go_sem]
  have k1 : ((w.alloc (Obj.cells #[Value.slice a n c] 75)).alloc (Obj.cells #[Value.slice b m d] 75)).cell? ⟨w.heap.size + 1, 0, none⟩ = some (.slice b m d) := by simp [go_sem]
  obtain ⟨L0, HL0⟩ : ∃ L0 : Int, Hid ((((pathSt ps n).length : Nat) : Int) = L0) := ⟨_, Lib.hid rfl⟩
  obtain ⟨L1, HL1⟩ : ∃ L1 : Int, Hid ((((pathSt qs m).length : Nat) : Int) = L1) := ⟨_, Lib.hid rfl⟩
  obtain ⟨E0, HE0⟩ : ∃ E0 : Int, Hid (pathExp ps n = E0) := ⟨_, Lib.hid rfl⟩
  obtain ⟨E1, HE1⟩ : ∃ E1 : Int, Hid (pathExp qs m = E1) := ⟨_, Lib.hid rfl⟩
  obtain ⟨D0, HD0⟩ : ∃ D0 : Int, Hid (pdV ps n = D0) := ⟨_, Lib.hid rfl⟩
  obtain ⟨D1, HD1⟩ : ∃ D1 : Int, Hid (pdV qs m = D1) := ⟨_, Lib.hid rfl⟩
  rw [HL0.out, HL1.out, HE0.out, HE1.out, HD0.out, HD1.out]
  obtain ⟨O, HO⟩ : ∃ O : Int, Hid (or3 (cmpV L0 L1) (cmpV E1 E0) (cmpV D0 D1) = O) := ⟨_, Lib.hid rfl⟩
  have HB := Lib.hid (show betB L0 L1 E0 E1 D0 D1 = decide (O < 0) by rw [← betB_or, HO.out])
  have hfld : ∀ w', (Instr.field 126 (Value.agg #[.func (.func 118) #[] #[]]) 0).run Try.prog w' = .ok (.func (.func 118) #[] #[]) w' := fun _ => by kernel_rfl
  have hen : ∀ x y w', (callFunc 118 #[x, y]).run Try.prog w' = .ok (.enter 118 #[x, y]) w' := fun _ _ _ => by kernel_rfl
  go_enter Try.func39, Try.ntmps39
  go_wp2_with fail
  refine wp_region_wk (fun w' => Mk0 ((w.alloc (Obj.cells #[Value.slice a n c] 75)).alloc (Obj.cells #[Value.slice b m d] 75)) w' ∧ w'.cell? ⟨w.heap.size, 0, none⟩ = some (.slice a n c) ∧ w'.cell? ⟨w.heap.size + 1, 0, none⟩ = some (.slice b m d)) (by kernel_rfl) (by kernel_rfl) (⟨Mk.drew1 _, k0, k1⟩) ?_
  change Wk _ _ _ _ 9 0 _
  refine Wk.call (m := 8) (k := 0) (v := .agg #[.func (.func 118) #[] #[]]) _ _ rfl (by rfl) (fun wv hS => by obtain ⟨s0, s1, s2⟩ := hS; go_simp; first | done | exact ⟨rfl, rfl⟩ | with_reducible rfl) (fun wv hS => ?_) ?_; · obtain ⟨s0, s1, s2⟩ := hS; refine (bestF wv).mono ?_; rintro e w' ⟨he, mm⟩; exact ⟨he, s0.trans mm, mm.cellAt s1, mm.cellAt s2⟩
  try simp only [Act.put, List.getElem_toArray, List.getElem_cons_zero, List.setIfInBounds_toArray, List.set_cons_zero, List.set_cons_succ]
  first | (refine Wk.skip (m := 7) (k := 1) rfl (by rfl) ?_) | (refine Wk.step (m := 7) (k := 1) (v := _) rfl (by rfl) (fun wv hS => by obtain ⟨s0, s1, s2⟩ := hS; go_simp; try with_reducible rfl) ?_)
  try simp only [Act.put, List.getElem_toArray, List.getElem_cons_succ, List.getElem_cons_zero, List.setIfInBounds_toArray, List.set_cons_zero, List.set_cons_succ]
  first | (refine Wk.skip (m := 6) (k := 2) rfl (by rfl) ?_) | (refine Wk.step (m := 6) (k := 2) (v := _) rfl (by rfl) (fun wv hS => by obtain ⟨s0, s1, s2⟩ := hS; go_simp; try with_reducible rfl) ?_)
  try simp only [Act.put, List.getElem_toArray, List.getElem_cons_succ, List.getElem_cons_zero, List.setIfInBounds_toArray, List.set_cons_zero, List.set_cons_succ]
  refine Wk.call (m := 5) (k := 3) (v := .agg #[.slice a n c, .int .i64 L0, .int .i64 E0, .int .i64 D0]) _ _ rfl (by rfl) (fun wv hS => by obtain ⟨s0, s1, s2⟩ := hS; go_simp; first | done | exact ⟨rfl, rfl⟩ | with_reducible rfl) (fun wv hS => ?_) ?_; · obtain ⟨s0, s1, s2⟩ := hS; refine (rankP a n c B ps wv (h.mk (M0.trans s0) hB (.inr (Nat.le_refl _))) (Nat.le_trans hB (M0.trans s0).size) hn hf).mono ?_; rintro e w' ⟨he, mm⟩; exact ⟨by rw [he, HL0.out, HE0.out, HD0.out], s0.trans mm, mm.cellAt s1, mm.cellAt s2⟩
  try simp only [Act.put, List.getElem_toArray, List.getElem_cons_succ, List.getElem_cons_zero, List.setIfInBounds_toArray, List.set_cons_zero, List.set_cons_succ]
  first | (refine Wk.skip (m := 4) (k := 4) rfl (by rfl) ?_) | (refine Wk.step (m := 4) (k := 4) (v := _) rfl (by rfl) (fun wv hS => by obtain ⟨s0, s1, s2⟩ := hS; go_simp; try with_reducible rfl) ?_)
  try simp only [Act.put, List.getElem_toArray, List.getElem_cons_succ, List.getElem_cons_zero, List.setIfInBounds_toArray, List.set_cons_zero, List.set_cons_succ]
  refine Wk.call (m := 3) (k := 5) (v := .agg #[.slice b m d, .int .i64 L1, .int .i64 E1, .int .i64 D1]) _ _ rfl (by rfl) (fun wv hS => by obtain ⟨s0, s1, s2⟩ := hS; go_simp; first | done | exact ⟨rfl, rfl⟩ | with_reducible rfl) (fun wv hS => ?_) ?_; · obtain ⟨s0, s1, s2⟩ := hS; refine (rankP b m d B' qs wv (h'.mk (M0.trans s0) hB' (.inr (Nat.le_refl _))) (Nat.le_trans hB' (M0.trans s0).size) hn' hf').mono ?_; rintro e w' ⟨he, mm⟩; exact ⟨by rw [he, HL1.out, HE1.out, HD1.out], s0.trans mm, mm.cellAt s1, mm.cellAt s2⟩
  try simp only [Act.put, List.getElem_toArray, List.getElem_cons_succ, List.getElem_cons_zero, List.setIfInBounds_toArray, List.set_cons_zero, List.set_cons_succ]
  refine Wk.call (m := 2) (k := 6) (v := .int .i64 O) _ _ rfl (by rfl) (fun wv hS => by obtain ⟨s0, s1, s2⟩ := hS; go_simp; first | done | exact ⟨rfl, rfl⟩ | with_reducible rfl) (fun wv hS => ?_) ?_; · obtain ⟨s0, s1, s2⟩ := hS; refine (bestC a b n c m d L0 E0 D0 L1 E1 D1 wv).mono ?_; rintro e w' ⟨he, mm⟩; exact ⟨by rw [he, HO.out], s0.trans mm, mm.cellAt s1, mm.cellAt s2⟩
  try simp only [Act.put, List.getElem_toArray, List.getElem_cons_succ, List.getElem_cons_zero, List.setIfInBounds_toArray, List.set_cons_zero, List.set_cons_succ]
  first | (refine Wk.skip (m := 1) (k := 7) rfl (by rfl) ?_) | (refine Wk.step (m := 1) (k := 7) (v := _) rfl (by rfl) (fun wv hS => by obtain ⟨s0, s1, s2⟩ := hS; go_simp; try with_reducible rfl) ?_)
  try simp only [Act.put, List.getElem_toArray, List.getElem_cons_succ, List.getElem_cons_zero, List.setIfInBounds_toArray, List.set_cons_zero, List.set_cons_succ]
  first | (refine Wk.skip (m := 0) (k := 8) rfl (by rfl) ?_) | (refine Wk.step (m := 0) (k := 8) (v := _) rfl (by rfl) (fun wv hS => by obtain ⟨s0, s1, s2⟩ := hS; go_simp; try with_reducible rfl) ?_)
  try simp only [Act.put, List.getElem_toArray, List.getElem_cons_succ, List.getElem_cons_zero, List.setIfInBounds_toArray, List.set_cons_zero, List.set_cons_succ]
  refine Wk.done fun wE hE => ?_
  clear k0 k1
  obtain ⟨mE, k0, k1⟩ := hE
  go_wp2_with fail
  go_ret
  exact ⟨retB HB.out.symm, M0.trans mE⟩

set_option maxRecDepth 100000 in
set_option maxHeartbeats 4000000 in
theorem specBetter (a b : Option Addr) (n c m d B B' : Nat) (ps qs : List TPathPart) (w : World) (h : HasPathPart w B a n ps) (h' : HasPathPart w B' b m qs) (hB : B ≤ w.heap.size) (hB' : B' ≤ w.heap.size) (hn : szPathPart ps n ≤ 1048576) (hn' : szPathPart qs m ≤ 1048576) (hf : ∀ y ∈ ps, TPathPart.fits y) (hf' : ∀ y ∈ qs, TPathPart.fits y) :
    Calls Try.prog 37 #[.agg #[.slice a n c], .agg #[.slice b m d]] w fun e w' => e = .returned (.bool (betB (((pathSt ps n).length : Nat) : Int) (((pathSt qs m).length : Nat) : Int) (pathExp ps n) (pathExp qs m) (pdV ps n) (pdV qs m))) ∧ Mk0 w w' := by
  have M0 := (Mk.alloc w (Obj.cells #[Value.slice a n c] 75)).new (Obj.cells #[Value.slice b m d] 75)
  have k0 : ((w.alloc (Obj.cells #[Value.slice a n c] 75)).alloc (Obj.cells #[Value.slice b m d] 75)).cell? ⟨w.heap.size, 0, none⟩ = some (.slice a n c) := by simp [go_sem]
  have k1 : ((w.alloc (Obj.cells #[Value.slice a n c] 75)).alloc (Obj.cells #[Value.slice b m d] 75)).cell? ⟨w.heap.size + 1, 0, none⟩ = some (.slice b m d) := by simp [go_sem]
  obtain ⟨L0, HL0⟩ : ∃ L0 : Int, Hid ((((pathSt ps n).length : Nat) : Int) = L0) := ⟨_, Lib.hid rfl⟩
  obtain ⟨L1, HL1⟩ : ∃ L1 : Int, Hid ((((pathSt qs m).length : Nat) : Int) = L1) := ⟨_, Lib.hid rfl⟩
  obtain ⟨E0, HE0⟩ : ∃ E0 : Int, Hid (pathExp ps n = E0) := ⟨_, Lib.hid rfl⟩
  obtain ⟨E1, HE1⟩ : ∃ E1 : Int, Hid (pathExp qs m = E1) := ⟨_, Lib.hid rfl⟩
  obtain ⟨D0, HD0⟩ : ∃ D0 : Int, Hid (pdV ps n = D0) := ⟨_, Lib.hid rfl⟩
  obtain ⟨D1, HD1⟩ : ∃ D1 : Int, Hid (pdV qs m = D1) := ⟨_, Lib.hid rfl⟩
  rw [HL0.out, HL1.out, HE0.out, HE1.out, HD0.out, HD1.out]
  go_enter Try.func37, Try.ntmps37
  cases eL : (L0 == L1)
  · have EL := Lib.hid eL
    have bL : (L0 != L1) = true := by simp only [bne, eL]; rfl
    clear eL
    go_wp2_with fail
    refine wp_region_wk (fun w' => Mk0 ((w.alloc (Obj.cells #[Value.slice a n c] 75)).alloc (Obj.cells #[Value.slice b m d] 75)) w' ∧ w'.cell? ⟨w.heap.size, 0, none⟩ = some (.slice a n c) ∧ w'.cell? ⟨w.heap.size + 1, 0, none⟩ = some (.slice b m d)) (by kernel_rfl) (by kernel_rfl) (⟨Mk.drew1 _, k0, k1⟩) ?_
    change Wk _ _ _ _ 6 0 _
    first | (refine Wk.skip (m := 5) (k := 0) rfl (by rfl) ?_) | (refine Wk.step (m := 5) (k := 0) (v := _) rfl (by rfl) (fun wv hS => by obtain ⟨s0, s1, s2⟩ := hS; go_simp; try with_reducible rfl) ?_)
    try simp only [Act.put, List.getElem_toArray, List.getElem_cons_zero, List.setIfInBounds_toArray, List.set_cons_zero, List.set_cons_succ]
    refine Wk.call (m := 4) (k := 1) (v := .int .i64 L0) _ _ rfl (by rfl) (fun wv hS => by obtain ⟨s0, s1, s2⟩ := hS; go_simp; first | done | exact ⟨rfl, rfl⟩ | with_reducible rfl) (fun wv hS => ?_) ?_; · obtain ⟨s0, s1, s2⟩ := hS; refine (specPLen a n c B ps wv (h.mk (M0.trans s0) hB (.inr (Nat.le_refl _))) (Nat.le_trans hB (M0.trans s0).size) hn).mono ?_; rintro e w' ⟨he, mm⟩; exact ⟨by rw [he, HL0.out], s0.trans mm, mm.cellAt s1, mm.cellAt s2⟩
    try simp only [Act.put, List.getElem_toArray, List.getElem_cons_succ, List.getElem_cons_zero, List.setIfInBounds_toArray, List.set_cons_zero, List.set_cons_succ]
    first | (refine Wk.skip (m := 3) (k := 2) rfl (by rfl) ?_) | (refine Wk.step (m := 3) (k := 2) (v := _) rfl (by rfl) (fun wv hS => by obtain ⟨s0, s1, s2⟩ := hS; go_simp; try with_reducible rfl) ?_)
    try simp only [Act.put, List.getElem_toArray, List.getElem_cons_succ, List.getElem_cons_zero, List.setIfInBounds_toArray, List.set_cons_zero, List.set_cons_succ]
    refine Wk.call (m := 2) (k := 3) (v := .int .i64 L1) _ _ rfl (by rfl) (fun wv hS => by obtain ⟨s0, s1, s2⟩ := hS; go_simp; first | done | exact ⟨rfl, rfl⟩ | with_reducible rfl) (fun wv hS => ?_) ?_; · obtain ⟨s0, s1, s2⟩ := hS; refine (specPLen b m d B' qs wv (h'.mk (M0.trans s0) hB' (.inr (Nat.le_refl _))) (Nat.le_trans hB' (M0.trans s0).size) hn').mono ?_; rintro e w' ⟨he, mm⟩; exact ⟨by rw [he, HL1.out], s0.trans mm, mm.cellAt s1, mm.cellAt s2⟩
    try simp only [Act.put, List.getElem_toArray, List.getElem_cons_succ, List.getElem_cons_zero, List.setIfInBounds_toArray, List.set_cons_zero, List.set_cons_succ]
    first | (refine Wk.skip (m := 1) (k := 4) rfl (by rfl) ?_) | (refine Wk.step (m := 1) (k := 4) (v := _) rfl (by rfl) (fun wv hS => by obtain ⟨s0, s1, s2⟩ := hS; go_simp; try with_reducible rfl) ?_)
    try simp only [Act.put, List.getElem_toArray, List.getElem_cons_succ, List.getElem_cons_zero, List.setIfInBounds_toArray, List.set_cons_zero, List.set_cons_succ]
    first | (refine Wk.skip (m := 0) (k := 5) rfl (by rfl) ?_) | (refine Wk.step (m := 0) (k := 5) (v := _) rfl (by rfl) (fun wv hS => by obtain ⟨s0, s1, s2⟩ := hS; go_simp; try with_reducible rfl) ?_)
    try simp only [Act.put, List.getElem_toArray, List.getElem_cons_succ, List.getElem_cons_zero, List.setIfInBounds_toArray, List.set_cons_zero, List.set_cons_succ]
    refine Wk.done fun wEa hEa => ?_
    clear k0 k1
    obtain ⟨mEa, k0, k1⟩ := hEa
    replace M0 := M0.trans mEa
    clear mEa
    go_wp2_with fail
    refine wp_region_wk (fun w' => Mk0 wEa w' ∧ w'.cell? ⟨w.heap.size, 0, none⟩ = some (.slice a n c) ∧ w'.cell? ⟨w.heap.size + 1, 0, none⟩ = some (.slice b m d)) (by kernel_rfl) (by kernel_rfl) (⟨Mk.drew1 _, k0, k1⟩) ?_
    change Wk _ _ _ _ 6 0 _
    first | (refine Wk.skip (m := 5) (k := 0) rfl (by rfl) ?_) | (refine Wk.step (m := 5) (k := 0) (v := _) rfl (by rfl) (fun wv hS => by obtain ⟨s0, s1, s2⟩ := hS; go_simp; try with_reducible rfl) ?_)
    try simp only [Act.put, List.getElem_toArray, List.getElem_cons_zero, List.setIfInBounds_toArray, List.set_cons_zero, List.set_cons_succ]
    refine Wk.call (m := 4) (k := 1) (v := .int .i64 L0) _ _ rfl (by rfl) (fun wv hS => by obtain ⟨s0, s1, s2⟩ := hS; go_simp; first | done | exact ⟨rfl, rfl⟩ | with_reducible rfl) (fun wv hS => ?_) ?_; · obtain ⟨s0, s1, s2⟩ := hS; refine (specPLen a n c B ps wv (h.mk (M0.trans s0) hB (.inr (Nat.le_refl _))) (Nat.le_trans hB (M0.trans s0).size) hn).mono ?_; rintro e w' ⟨he, mm⟩; exact ⟨by rw [he, HL0.out], s0.trans mm, mm.cellAt s1, mm.cellAt s2⟩
    try simp only [Act.put, List.getElem_toArray, List.getElem_cons_succ, List.getElem_cons_zero, List.setIfInBounds_toArray, List.set_cons_zero, List.set_cons_succ]
    first | (refine Wk.skip (m := 3) (k := 2) rfl (by rfl) ?_) | (refine Wk.step (m := 3) (k := 2) (v := _) rfl (by rfl) (fun wv hS => by obtain ⟨s0, s1, s2⟩ := hS; go_simp; try with_reducible rfl) ?_)
    try simp only [Act.put, List.getElem_toArray, List.getElem_cons_succ, List.getElem_cons_zero, List.setIfInBounds_toArray, List.set_cons_zero, List.set_cons_succ]
    refine Wk.call (m := 2) (k := 3) (v := .int .i64 L1) _ _ rfl (by rfl) (fun wv hS => by obtain ⟨s0, s1, s2⟩ := hS; go_simp; first | done | exact ⟨rfl, rfl⟩ | with_reducible rfl) (fun wv hS => ?_) ?_; · obtain ⟨s0, s1, s2⟩ := hS; refine (specPLen b m d B' qs wv (h'.mk (M0.trans s0) hB' (.inr (Nat.le_refl _))) (Nat.le_trans hB' (M0.trans s0).size) hn').mono ?_; rintro e w' ⟨he, mm⟩; exact ⟨by rw [he, HL1.out], s0.trans mm, mm.cellAt s1, mm.cellAt s2⟩
    try simp only [Act.put, List.getElem_toArray, List.getElem_cons_succ, List.getElem_cons_zero, List.setIfInBounds_toArray, List.set_cons_zero, List.set_cons_succ]
    first | (refine Wk.skip (m := 1) (k := 4) rfl (by rfl) ?_) | (refine Wk.step (m := 1) (k := 4) (v := _) rfl (by rfl) (fun wv hS => by obtain ⟨s0, s1, s2⟩ := hS; go_simp; try with_reducible rfl) ?_)
    try simp only [Act.put, List.getElem_toArray, List.getElem_cons_succ, List.getElem_cons_zero, List.setIfInBounds_toArray, List.set_cons_zero, List.set_cons_succ]
    first | (refine Wk.skip (m := 0) (k := 5) rfl (by rfl) ?_) | (refine Wk.step (m := 0) (k := 5) (v := _) rfl (by rfl) (fun wv hS => by obtain ⟨s0, s1, s2⟩ := hS; go_simp; try with_reducible rfl) ?_)
    try simp only [Act.put, List.getElem_toArray, List.getElem_cons_succ, List.getElem_cons_zero, List.setIfInBounds_toArray, List.set_cons_zero, List.set_cons_succ]
    refine Wk.done fun wEb hEb => ?_
    clear k0 k1
    obtain ⟨mEb, k0, k1⟩ := hEb
    go_wp2_with fail
    go_ret
    exact ⟨retB (by unfold betB; rw [if_neg (by simpa using EL.out)]), M0.trans mEb⟩
  · have EL := Lib.hid eL
    have bL : (L0 != L1) = false := by simp only [bne, eL]; rfl
    clear eL
    go_wp2_with fail
    refine wp_region_wk (fun w' => Mk0 ((w.alloc (Obj.cells #[Value.slice a n c] 75)).alloc (Obj.cells #[Value.slice b m d] 75)) w' ∧ w'.cell? ⟨w.heap.size, 0, none⟩ = some (.slice a n c) ∧ w'.cell? ⟨w.heap.size + 1, 0, none⟩ = some (.slice b m d)) (by kernel_rfl) (by kernel_rfl) (⟨Mk.drew1 _, k0, k1⟩) ?_
    change Wk _ _ _ _ 6 0 _
    first | (refine Wk.skip (m := 5) (k := 0) rfl (by rfl) ?_) | (refine Wk.step (m := 5) (k := 0) (v := _) rfl (by rfl) (fun wv hS => by obtain ⟨s0, s1, s2⟩ := hS; go_simp; try with_reducible rfl) ?_)
    try simp only [Act.put, List.getElem_toArray, List.getElem_cons_zero, List.setIfInBounds_toArray, List.set_cons_zero, List.set_cons_succ]
    refine Wk.call (m := 4) (k := 1) (v := .int .i64 L0) _ _ rfl (by rfl) (fun wv hS => by obtain ⟨s0, s1, s2⟩ := hS; go_simp; first | done | exact ⟨rfl, rfl⟩ | with_reducible rfl) (fun wv hS => ?_) ?_; · obtain ⟨s0, s1, s2⟩ := hS; refine (specPLen a n c B ps wv (h.mk (M0.trans s0) hB (.inr (Nat.le_refl _))) (Nat.le_trans hB (M0.trans s0).size) hn).mono ?_; rintro e w' ⟨he, mm⟩; exact ⟨by rw [he, HL0.out], s0.trans mm, mm.cellAt s1, mm.cellAt s2⟩
    try simp only [Act.put, List.getElem_toArray, List.getElem_cons_succ, List.getElem_cons_zero, List.setIfInBounds_toArray, List.set_cons_zero, List.set_cons_succ]
    first | (refine Wk.skip (m := 3) (k := 2) rfl (by rfl) ?_) | (refine Wk.step (m := 3) (k := 2) (v := _) rfl (by rfl) (fun wv hS => by obtain ⟨s0, s1, s2⟩ := hS; go_simp; try with_reducible rfl) ?_)
    try simp only [Act.put, List.getElem_toArray, List.getElem_cons_succ, List.getElem_cons_zero, List.setIfInBounds_toArray, List.set_cons_zero, List.set_cons_succ]
    refine Wk.call (m := 2) (k := 3) (v := .int .i64 L1) _ _ rfl (by rfl) (fun wv hS => by obtain ⟨s0, s1, s2⟩ := hS; go_simp; first | done | exact ⟨rfl, rfl⟩ | with_reducible rfl) (fun wv hS => ?_) ?_; · obtain ⟨s0, s1, s2⟩ := hS; refine (specPLen b m d B' qs wv (h'.mk (M0.trans s0) hB' (.inr (Nat.le_refl _))) (Nat.le_trans hB' (M0.trans s0).size) hn').mono ?_; rintro e w' ⟨he, mm⟩; exact ⟨by rw [he, HL1.out], s0.trans mm, mm.cellAt s1, mm.cellAt s2⟩
    try simp only [Act.put, List.getElem_toArray, List.getElem_cons_succ, List.getElem_cons_zero, List.setIfInBounds_toArray, List.set_cons_zero, List.set_cons_succ]
    first | (refine Wk.skip (m := 1) (k := 4) rfl (by rfl) ?_) | (refine Wk.step (m := 1) (k := 4) (v := _) rfl (by rfl) (fun wv hS => by obtain ⟨s0, s1, s2⟩ := hS; go_simp; try with_reducible rfl) ?_)
    try simp only [Act.put, List.getElem_toArray, List.getElem_cons_succ, List.getElem_cons_zero, List.setIfInBounds_toArray, List.set_cons_zero, List.set_cons_succ]
    first | (refine Wk.skip (m := 0) (k := 5) rfl (by rfl) ?_) | (refine Wk.step (m := 0) (k := 5) (v := _) rfl (by rfl) (fun wv hS => by obtain ⟨s0, s1, s2⟩ := hS; go_simp; try with_reducible rfl) ?_)
    try simp only [Act.put, List.getElem_toArray, List.getElem_cons_succ, List.getElem_cons_zero, List.setIfInBounds_toArray, List.set_cons_zero, List.set_cons_succ]
    refine Wk.done fun wEa hEa => ?_
    clear k0 k1
    obtain ⟨mEa, k0, k1⟩ := hEa
    replace M0 := M0.trans mEa
    clear mEa
    cases eE : (E0 == E1)
    · have EE := Lib.hid eE
      have bE : (E0 != E1) = true := by simp only [bne, eE]; rfl
      clear eE
      go_wp2_with fail
      refine wp_region_wk (fun w' => Mk0 wEa w' ∧ w'.cell? ⟨w.heap.size, 0, none⟩ = some (.slice a n c) ∧ w'.cell? ⟨w.heap.size + 1, 0, none⟩ = some (.slice b m d)) (by kernel_rfl) (by kernel_rfl) (⟨Mk.drew1 _, k0, k1⟩) ?_
      change Wk _ _ _ _ 6 0 _
      first | (refine Wk.skip (m := 5) (k := 0) rfl (by rfl) ?_) | (refine Wk.step (m := 5) (k := 0) (v := _) rfl (by rfl) (fun wv hS => by obtain ⟨s0, s1, s2⟩ := hS; go_simp; try with_reducible rfl) ?_)
      try simp only [Act.put, List.getElem_toArray, List.getElem_cons_zero, List.setIfInBounds_toArray, List.set_cons_zero, List.set_cons_succ]
      refine Wk.call (m := 4) (k := 1) (v := .int .i64 E0) _ _ rfl (by rfl) (fun wv hS => by obtain ⟨s0, s1, s2⟩ := hS; go_simp; first | done | exact ⟨rfl, rfl⟩ | with_reducible rfl) (fun wv hS => ?_) ?_; · obtain ⟨s0, s1, s2⟩ := hS; refine (specPExp a n c B ps wv (h.mk (M0.trans s0) hB (.inr (Nat.le_refl _))) (Nat.le_trans hB (M0.trans s0).size) hn).mono ?_; rintro e w' ⟨he, mm⟩; exact ⟨by rw [he, HE0.out], s0.trans mm, mm.cellAt s1, mm.cellAt s2⟩
      try simp only [Act.put, List.getElem_toArray, List.getElem_cons_succ, List.getElem_cons_zero, List.setIfInBounds_toArray, List.set_cons_zero, List.set_cons_succ]
      first | (refine Wk.skip (m := 3) (k := 2) rfl (by rfl) ?_) | (refine Wk.step (m := 3) (k := 2) (v := _) rfl (by rfl) (fun wv hS => by obtain ⟨s0, s1, s2⟩ := hS; go_simp; try with_reducible rfl) ?_)
      try simp only [Act.put, List.getElem_toArray, List.getElem_cons_succ, List.getElem_cons_zero, List.setIfInBounds_toArray, List.set_cons_zero, List.set_cons_succ]
      refine Wk.call (m := 2) (k := 3) (v := .int .i64 E1) _ _ rfl (by rfl) (fun wv hS => by obtain ⟨s0, s1, s2⟩ := hS; go_simp; first | done | exact ⟨rfl, rfl⟩ | with_reducible rfl) (fun wv hS => ?_) ?_; · obtain ⟨s0, s1, s2⟩ := hS; refine (specPExp b m d B' qs wv (h'.mk (M0.trans s0) hB' (.inr (Nat.le_refl _))) (Nat.le_trans hB' (M0.trans s0).size) hn').mono ?_; rintro e w' ⟨he, mm⟩; exact ⟨by rw [he, HE1.out], s0.trans mm, mm.cellAt s1, mm.cellAt s2⟩
      try simp only [Act.put, List.getElem_toArray, List.getElem_cons_succ, List.getElem_cons_zero, List.setIfInBounds_toArray, List.set_cons_zero, List.set_cons_succ]
      first | (refine Wk.skip (m := 1) (k := 4) rfl (by rfl) ?_) | (refine Wk.step (m := 1) (k := 4) (v := _) rfl (by rfl) (fun wv hS => by obtain ⟨s0, s1, s2⟩ := hS; go_simp; try with_reducible rfl) ?_)
      try simp only [Act.put, List.getElem_toArray, List.getElem_cons_succ, List.getElem_cons_zero, List.setIfInBounds_toArray, List.set_cons_zero, List.set_cons_succ]
      first | (refine Wk.skip (m := 0) (k := 5) rfl (by rfl) ?_) | (refine Wk.step (m := 0) (k := 5) (v := _) rfl (by rfl) (fun wv hS => by obtain ⟨s0, s1, s2⟩ := hS; go_simp; try with_reducible rfl) ?_)
      try simp only [Act.put, List.getElem_toArray, List.getElem_cons_succ, List.getElem_cons_zero, List.setIfInBounds_toArray, List.set_cons_zero, List.set_cons_succ]
      refine Wk.done fun wEc hEc => ?_
      clear k0 k1
      obtain ⟨mEc, k0, k1⟩ := hEc
      replace M0 := M0.trans mEc
      clear mEc
      go_wp2_with fail
      refine wp_region_wk (fun w' => Mk0 wEc w' ∧ w'.cell? ⟨w.heap.size, 0, none⟩ = some (.slice a n c) ∧ w'.cell? ⟨w.heap.size + 1, 0, none⟩ = some (.slice b m d)) (by kernel_rfl) (by kernel_rfl) (⟨Mk.drew1 _, k0, k1⟩) ?_
      change Wk _ _ _ _ 6 0 _
      first | (refine Wk.skip (m := 5) (k := 0) rfl (by rfl) ?_) | (refine Wk.step (m := 5) (k := 0) (v := _) rfl (by rfl) (fun wv hS => by obtain ⟨s0, s1, s2⟩ := hS; go_simp; try with_reducible rfl) ?_)
      try simp only [Act.put, List.getElem_toArray, List.getElem_cons_zero, List.setIfInBounds_toArray, List.set_cons_zero, List.set_cons_succ]
      refine Wk.call (m := 4) (k := 1) (v := .int .i64 E0) _ _ rfl (by rfl) (fun wv hS => by obtain ⟨s0, s1, s2⟩ := hS; go_simp; first | done | exact ⟨rfl, rfl⟩ | with_reducible rfl) (fun wv hS => ?_) ?_; · obtain ⟨s0, s1, s2⟩ := hS; refine (specPExp a n c B ps wv (h.mk (M0.trans s0) hB (.inr (Nat.le_refl _))) (Nat.le_trans hB (M0.trans s0).size) hn).mono ?_; rintro e w' ⟨he, mm⟩; exact ⟨by rw [he, HE0.out], s0.trans mm, mm.cellAt s1, mm.cellAt s2⟩
      try simp only [Act.put, List.getElem_toArray, List.getElem_cons_succ, List.getElem_cons_zero, List.setIfInBounds_toArray, List.set_cons_zero, List.set_cons_succ]
      first | (refine Wk.skip (m := 3) (k := 2) rfl (by rfl) ?_) | (refine Wk.step (m := 3) (k := 2) (v := _) rfl (by rfl) (fun wv hS => by obtain ⟨s0, s1, s2⟩ := hS; go_simp; try with_reducible rfl) ?_)
      try simp only [Act.put, List.getElem_toArray, List.getElem_cons_succ, List.getElem_cons_zero, List.setIfInBounds_toArray, List.set_cons_zero, List.set_cons_succ]
      refine Wk.call (m := 2) (k := 3) (v := .int .i64 E1) _ _ rfl (by rfl) (fun wv hS => by obtain ⟨s0, s1, s2⟩ := hS; go_simp; first | done | exact ⟨rfl, rfl⟩ | with_reducible rfl) (fun wv hS => ?_) ?_; · obtain ⟨s0, s1, s2⟩ := hS; refine (specPExp b m d B' qs wv (h'.mk (M0.trans s0) hB' (.inr (Nat.le_refl _))) (Nat.le_trans hB' (M0.trans s0).size) hn').mono ?_; rintro e w' ⟨he, mm⟩; exact ⟨by rw [he, HE1.out], s0.trans mm, mm.cellAt s1, mm.cellAt s2⟩
      try simp only [Act.put, List.getElem_toArray, List.getElem_cons_succ, List.getElem_cons_zero, List.setIfInBounds_toArray, List.set_cons_zero, List.set_cons_succ]
      first | (refine Wk.skip (m := 1) (k := 4) rfl (by rfl) ?_) | (refine Wk.step (m := 1) (k := 4) (v := _) rfl (by rfl) (fun wv hS => by obtain ⟨s0, s1, s2⟩ := hS; go_simp; try with_reducible rfl) ?_)
      try simp only [Act.put, List.getElem_toArray, List.getElem_cons_succ, List.getElem_cons_zero, List.setIfInBounds_toArray, List.set_cons_zero, List.set_cons_succ]
      first | (refine Wk.skip (m := 0) (k := 5) rfl (by rfl) ?_) | (refine Wk.step (m := 0) (k := 5) (v := _) rfl (by rfl) (fun wv hS => by obtain ⟨s0, s1, s2⟩ := hS; go_simp; try with_reducible rfl) ?_)
      try simp only [Act.put, List.getElem_toArray, List.getElem_cons_succ, List.getElem_cons_zero, List.setIfInBounds_toArray, List.set_cons_zero, List.set_cons_succ]
      refine Wk.done fun wEd hEd => ?_
      clear k0 k1
      obtain ⟨mEd, k0, k1⟩ := hEd
      go_wp2_with fail
      go_ret
      exact ⟨retB (by unfold betB; rw [if_pos (by simpa using EL.out), if_neg (by simpa using EE.out)]), M0.trans mEd⟩
    · have EE := Lib.hid eE
      have bE : (E0 != E1) = false := by simp only [bne, eE]; rfl
      clear eE
      go_wp2_with fail
      refine wp_region_wk (fun w' => Mk0 wEa w' ∧ w'.cell? ⟨w.heap.size, 0, none⟩ = some (.slice a n c) ∧ w'.cell? ⟨w.heap.size + 1, 0, none⟩ = some (.slice b m d)) (by kernel_rfl) (by kernel_rfl) (⟨Mk.drew1 _, k0, k1⟩) ?_
      change Wk _ _ _ _ 6 0 _
      first | (refine Wk.skip (m := 5) (k := 0) rfl (by rfl) ?_) | (refine Wk.step (m := 5) (k := 0) (v := _) rfl (by rfl) (fun wv hS => by obtain ⟨s0, s1, s2⟩ := hS; go_simp; try with_reducible rfl) ?_)
      try simp only [Act.put, List.getElem_toArray, List.getElem_cons_zero, List.setIfInBounds_toArray, List.set_cons_zero, List.set_cons_succ]
      refine Wk.call (m := 4) (k := 1) (v := .int .i64 E0) _ _ rfl (by rfl) (fun wv hS => by obtain ⟨s0, s1, s2⟩ := hS; go_simp; first | done | exact ⟨rfl, rfl⟩ | with_reducible rfl) (fun wv hS => ?_) ?_; · obtain ⟨s0, s1, s2⟩ := hS; refine (specPExp a n c B ps wv (h.mk (M0.trans s0) hB (.inr (Nat.le_refl _))) (Nat.le_trans hB (M0.trans s0).size) hn).mono ?_; rintro e w' ⟨he, mm⟩; exact ⟨by rw [he, HE0.out], s0.trans mm, mm.cellAt s1, mm.cellAt s2⟩
      try simp only [Act.put, List.getElem_toArray, List.getElem_cons_succ, List.getElem_cons_zero, List.setIfInBounds_toArray, List.set_cons_zero, List.set_cons_succ]
      first | (refine Wk.skip (m := 3) (k := 2) rfl (by rfl) ?_) | (refine Wk.step (m := 3) (k := 2) (v := _) rfl (by rfl) (fun wv hS => by obtain ⟨s0, s1, s2⟩ := hS; go_simp; try with_reducible rfl) ?_)
      try simp only [Act.put, List.getElem_toArray, List.getElem_cons_succ, List.getElem_cons_zero, List.setIfInBounds_toArray, List.set_cons_zero, List.set_cons_succ]
      refine Wk.call (m := 2) (k := 3) (v := .int .i64 E1) _ _ rfl (by rfl) (fun wv hS => by obtain ⟨s0, s1, s2⟩ := hS; go_simp; first | done | exact ⟨rfl, rfl⟩ | with_reducible rfl) (fun wv hS => ?_) ?_; · obtain ⟨s0, s1, s2⟩ := hS; refine (specPExp b m d B' qs wv (h'.mk (M0.trans s0) hB' (.inr (Nat.le_refl _))) (Nat.le_trans hB' (M0.trans s0).size) hn').mono ?_; rintro e w' ⟨he, mm⟩; exact ⟨by rw [he, HE1.out], s0.trans mm, mm.cellAt s1, mm.cellAt s2⟩
      try simp only [Act.put, List.getElem_toArray, List.getElem_cons_succ, List.getElem_cons_zero, List.setIfInBounds_toArray, List.set_cons_zero, List.set_cons_succ]
      first | (refine Wk.skip (m := 1) (k := 4) rfl (by rfl) ?_) | (refine Wk.step (m := 1) (k := 4) (v := _) rfl (by rfl) (fun wv hS => by obtain ⟨s0, s1, s2⟩ := hS; go_simp; try with_reducible rfl) ?_)
      try simp only [Act.put, List.getElem_toArray, List.getElem_cons_succ, List.getElem_cons_zero, List.setIfInBounds_toArray, List.set_cons_zero, List.set_cons_succ]
      first | (refine Wk.skip (m := 0) (k := 5) rfl (by rfl) ?_) | (refine Wk.step (m := 0) (k := 5) (v := _) rfl (by rfl) (fun wv hS => by obtain ⟨s0, s1, s2⟩ := hS; go_simp; try with_reducible rfl) ?_)
      try simp only [Act.put, List.getElem_toArray, List.getElem_cons_succ, List.getElem_cons_zero, List.setIfInBounds_toArray, List.set_cons_zero, List.set_cons_succ]
      refine Wk.done fun wEc hEc => ?_
      clear k0 k1
      obtain ⟨mEc, k0, k1⟩ := hEc
      replace M0 := M0.trans mEc
      clear mEc
      go_wp2_with fail
      refine wp_region_wk (fun w' => Mk0 wEc w' ∧ w'.cell? ⟨w.heap.size, 0, none⟩ = some (.slice a n c) ∧ w'.cell? ⟨w.heap.size + 1, 0, none⟩ = some (.slice b m d)) (by kernel_rfl) (by kernel_rfl) (⟨Mk.drew1 _, k0, k1⟩) ?_
      change Wk _ _ _ _ 6 0 _
      first | (refine Wk.skip (m := 5) (k := 0) rfl (by rfl) ?_) | (refine Wk.step (m := 5) (k := 0) (v := _) rfl (by rfl) (fun wv hS => by obtain ⟨s0, s1, s2⟩ := hS; go_simp; try with_reducible rfl) ?_)
      try simp only [Act.put, List.getElem_toArray, List.getElem_cons_zero, List.setIfInBounds_toArray, List.set_cons_zero, List.set_cons_succ]
      refine Wk.call (m := 4) (k := 1) (v := .int .i64 D0) _ _ rfl (by rfl) (fun wv hS => by obtain ⟨s0, s1, s2⟩ := hS; go_simp; first | done | exact ⟨rfl, rfl⟩ | with_reducible rfl) (fun wv hS => ?_) ?_; · obtain ⟨s0, s1, s2⟩ := hS; refine (specPDig a n c B ps wv (h.mk (M0.trans s0) hB (.inr (Nat.le_refl _))) (Nat.le_trans hB (M0.trans s0).size) hn hf).mono ?_; rintro e w' ⟨he, mm⟩; exact ⟨by rw [he, HD0.out], s0.trans mm, mm.cellAt s1, mm.cellAt s2⟩
      try simp only [Act.put, List.getElem_toArray, List.getElem_cons_succ, List.getElem_cons_zero, List.setIfInBounds_toArray, List.set_cons_zero, List.set_cons_succ]
      first | (refine Wk.skip (m := 3) (k := 2) rfl (by rfl) ?_) | (refine Wk.step (m := 3) (k := 2) (v := _) rfl (by rfl) (fun wv hS => by obtain ⟨s0, s1, s2⟩ := hS; go_simp; try with_reducible rfl) ?_)
      try simp only [Act.put, List.getElem_toArray, List.getElem_cons_succ, List.getElem_cons_zero, List.setIfInBounds_toArray, List.set_cons_zero, List.set_cons_succ]
      refine Wk.call (m := 2) (k := 3) (v := .int .i64 D1) _ _ rfl (by rfl) (fun wv hS => by obtain ⟨s0, s1, s2⟩ := hS; go_simp; first | done | exact ⟨rfl, rfl⟩ | with_reducible rfl) (fun wv hS => ?_) ?_; · obtain ⟨s0, s1, s2⟩ := hS; refine (specPDig b m d B' qs wv (h'.mk (M0.trans s0) hB' (.inr (Nat.le_refl _))) (Nat.le_trans hB' (M0.trans s0).size) hn' hf').mono ?_; rintro e w' ⟨he, mm⟩; exact ⟨by rw [he, HD1.out], s0.trans mm, mm.cellAt s1, mm.cellAt s2⟩
      try simp only [Act.put, List.getElem_toArray, List.getElem_cons_succ, List.getElem_cons_zero, List.setIfInBounds_toArray, List.set_cons_zero, List.set_cons_succ]
      first | (refine Wk.skip (m := 1) (k := 4) rfl (by rfl) ?_) | (refine Wk.step (m := 1) (k := 4) (v := _) rfl (by rfl) (fun wv hS => by obtain ⟨s0, s1, s2⟩ := hS; go_simp; try with_reducible rfl) ?_)
      try simp only [Act.put, List.getElem_toArray, List.getElem_cons_succ, List.getElem_cons_zero, List.setIfInBounds_toArray, List.set_cons_zero, List.set_cons_succ]
      first | (refine Wk.skip (m := 0) (k := 5) rfl (by rfl) ?_) | (refine Wk.step (m := 0) (k := 5) (v := _) rfl (by rfl) (fun wv hS => by obtain ⟨s0, s1, s2⟩ := hS; go_simp; try with_reducible rfl) ?_)
      try simp only [Act.put, List.getElem_toArray, List.getElem_cons_succ, List.getElem_cons_zero, List.setIfInBounds_toArray, List.set_cons_zero, List.set_cons_succ]
      refine Wk.done fun wEe hEe => ?_
      clear k0 k1
      obtain ⟨mEe, k0, k1⟩ := hEe
      go_wp2_with fail
      go_ret
      exact ⟨retB (by unfold betB; rw [if_pos (by simpa using EL.out), if_pos (by simpa using EE.out)]), M0.trans mEe⟩

end Go.Proofs.Ytiphndgmgpiodaa
