
/- SentCount and EqualSchedulers of both sides. -/
import Derived.Test.YtdlbncpjdldkoaaEqRes
import Derived.Test.YtdlbncpjdldkoaaEqUse
import Derived.Test.YtdlbncpjdldkoaaCScheduler
import Derived.Laws.EntriesVeiled
namespace Go.Proofs.Ytdlbncpjdldkoaa
open Go.ChangeShapes Go.WideShapes Go.ChangeAt Go.RowKit
set_option linter.unusedVariables false
def useAt (x : TUsage) (p q : Int) : Bool := (x.nd == p) && (x.ifc == q)
def sentUp (zs : List TUsage) (p q : Int) : Nat → Int
  | 0 => 0
  | k + 1 => if useAt (zs.getD k default) p q = true then wrap64 (sentUp zs p q k + (zs.getD k default).cnt) else sentUp zs p q k
set_option maxRecDepth 100000 in
set_option maxHeartbeats 4000000 in
theorem implUShare (x : TUsage) (w : World) : Calls Try.prog 73 #[.agg #[.int .i64 x.id, .int .i64 x.nd, .int .i64 x.ifc, .int .i64 x.cnt]] w fun e w' => e = .returned (.agg #[.int .i64 x.id, .int .i64 x.nd, .int .i64 x.ifc]) ∧ Mk0 w w' := by
  go_enter Try.func73, Try.ntmps73
  go_wp2_with fail
  refine bodyPost_ret (v := .agg #[.int .i64 x.id, .int .i64 x.nd, .int .i64 x.ifc]) (by simp [results, Try.results73, go_sem]) rfl ⟨rfl, Mk.of_below ?_⟩
  go_grown

set_option maxRecDepth 100000 in
set_option maxHeartbeats 4000000 in
theorem specSent (x0 p q : Int) (a1 : Option Addr) (n1 c1 : Nat) (a2 : Option Addr) (n2 c2 B : Nat) (zs : List TUsage) (w : World) (h : HasUsage w B a2 n2 zs) (hB : B ≤ w.heap.size) (hn : n2 ≤ 1048576) :
    Calls Try.prog 45 #[.agg #[.int .i64 x0, .slice a1 n1 c1, .slice a2 n2 c2], .int .i64 p, .int .i64 q] w fun e w' => e = .returned (.int .i64 (sentUp zs p q n2)) ∧ Mk0 w w' := by
  have M0 := Mk.alloc w (Obj.cells #[Value.int .i64 x0, Value.slice a1 n1 c1, Value.slice a2 n2 c2] 63)
  go_enter Try.func45, Try.ntmps45
  go_wp2_with fail
  go_loopw [7, 8] (fun v i wr => ∃ k : Nat, k ≤ n2 ∧ i = .int .i64 k ∧ v = .int .i64 (sentUp zs p q k) ∧ Mk0 (w.alloc (Obj.cells #[Value.int .i64 x0, Value.slice a1 n1 c1, Value.slice a2 n2 c2] 63)) wr) (fun _ i _ => n2 - (intOf i).toNat)
  case atStart => exact ⟨0, Nat.zero_le _, rfl, rfl, Mk.refl _ _ _⟩
  case round =>
    obtain ⟨k, hk, rfl, rfl, hM⟩ := hrel
    have k2 : (w.alloc (Obj.cells #[Value.int .i64 x0, Value.slice a1 n1 c1, Value.slice a2 n2 c2] 63)).cell? ⟨w.heap.size, 2, none⟩ = some (.slice a2 n2 c2) := by simp [go_sem]
    replace k2 := hM.cellAt k2
    have hM' := M0.trans hM
    by_cases hlt : k < n2
    · obtain ⟨b, off, x, rfl, hb, hx, d0, d1, d2, d3⟩ := HasUsage.at _ _ _ _ _ _ (h.mk hM' hB (.inr (Nat.le_refl _))) hlt
      cases e0 : (x.nd == p)
      · have HE := Lib.hid (show sentUp zs p q (k + 1) = sentUp zs p q k by rw [sentUp, ← hx.out, show useAt x p q = false by unfold useAt; rw [e0]; rfl]; rfl)
        go_wp2_with fail
        go_roundw
        case rel => exact ⟨k + 1, by omega, by go_num, by rw [HE.out], hM⟩
        case measure => simp [intOf]; omega
      · cases e1 : (x.ifc == q)
        · have HE := Lib.hid (show sentUp zs p q (k + 1) = sentUp zs p q k by rw [sentUp, ← hx.out, show useAt x p q = false by unfold useAt; rw [e0, e1]; rfl]; rfl)
          go_wp2_with fail
          go_roundw
          case rel => exact ⟨k + 1, by omega, by go_num, by rw [HE.out], hM⟩
          case measure => simp [intOf]; omega
        · have HE := Lib.hid (show sentUp zs p q (k + 1) = wrap64 (sentUp zs p q k + x.cnt) by rw [sentUp, ← hx.out, show useAt x p q = true by unfold useAt; rw [e0, e1]; rfl]; rfl)
          go_wp2_with fail
          go_roundw
          case rel => exact ⟨k + 1, by omega, by go_num, by rw [HE.out], hM⟩
          case measure => simp [intOf]; omega
    · obtain rfl : k = n2 := by omega
      go_wp2_with fail
      go_ret
      exact ⟨rfl, hM'⟩

set_option maxRecDepth 100000 in
set_option maxHeartbeats 4000000 in
theorem implSent (x0 p q : Int) (a1 : Option Addr) (n1 c1 : Nat) (a2 : Option Addr) (n2 c2 B : Nat) (zs : List TUsage) (w : World) (h : HasUsage w B a2 n2 zs) (hB : B ≤ w.heap.size) (hn : n2 ≤ 1048576) :
    Calls Try.prog 47 #[.agg #[.int .i64 x0, .slice a1 n1 c1, .slice a2 n2 c2], .int .i64 p, .int .i64 q] w fun e w' => e = .returned (.int .i64 (sentUp zs p q n2)) ∧ Mk0 w w' := by
  have M0 := Mk.alloc w (Obj.cells #[Value.int .i64 x0, Value.slice a1 n1 c1, Value.slice a2 n2 c2] 63)
  go_enter Try.func47, Try.ntmps47
  go_wp2_with fail
  go_loopw [7, 13] (fun v i wr => ∃ k : Nat, k ≤ n2 ∧ i = .int .i64 k ∧ v = .int .i64 (sentUp zs p q k) ∧ Mk0 (w.alloc (Obj.cells #[Value.int .i64 x0, Value.slice a1 n1 c1, Value.slice a2 n2 c2] 63)) wr) (fun _ i _ => n2 - (intOf i).toNat)
  case atStart => exact ⟨0, Nat.zero_le _, rfl, rfl, Mk.refl _ _ _⟩
  case round =>
    obtain ⟨k, hk, rfl, rfl, hM⟩ := hrel
    have k2 : (w.alloc (Obj.cells #[Value.int .i64 x0, Value.slice a1 n1 c1, Value.slice a2 n2 c2] 63)).cell? ⟨w.heap.size, 2, none⟩ = some (.slice a2 n2 c2) := by simp [go_sem]
    replace k2 := hM.cellAt k2
    have hM' := M0.trans hM
    by_cases hlt : k < n2
    · obtain ⟨b, off, x, rfl, hb, hx, d0, d1, d2, d3⟩ := HasUsage.at _ _ _ _ _ _ (h.mk hM' hB (.inr (Nat.le_refl _))) hlt
      have hbr := World.block_lt_of_cell? _ _ d0
      simp only at hbr
      have MX := Mk.alloc wr (Obj.cells #[Value.int .i64 x.id, Value.int .i64 x.nd, Value.int .i64 x.ifc, Value.int .i64 x.cnt] 89)
      have hfld : ∀ w', (Instr.field 83 (Value.agg #[.int .i64 x.id, .int .i64 x.nd, .int .i64 x.ifc]) 1).run Try.prog w' = .ok (.agg #[.int .i64 x.nd, .int .i64 x.ifc]) w' := fun _ => by kernel_rfl
      have t0 : (wr.alloc (Obj.cells #[Value.int .i64 x.id, Value.int .i64 x.nd, Value.int .i64 x.ifc, Value.int .i64 x.cnt] 89)).cell? ⟨wr.heap.size, 0, none⟩ = some (.int .i64 x.id) := by simp [go_sem]
      have t1 : (wr.alloc (Obj.cells #[Value.int .i64 x.id, Value.int .i64 x.nd, Value.int .i64 x.ifc, Value.int .i64 x.cnt] 89)).cell? ⟨wr.heap.size, 1, none⟩ = some (.int .i64 x.nd) := by simp [go_sem]
      have t2 : (wr.alloc (Obj.cells #[Value.int .i64 x.id, Value.int .i64 x.nd, Value.int .i64 x.ifc, Value.int .i64 x.cnt] 89)).cell? ⟨wr.heap.size, 2, none⟩ = some (.int .i64 x.ifc) := by simp [go_sem]
      have t3 : (wr.alloc (Obj.cells #[Value.int .i64 x.id, Value.int .i64 x.nd, Value.int .i64 x.ifc, Value.int .i64 x.cnt] 89)).cell? ⟨wr.heap.size, 3, none⟩ = some (.int .i64 x.cnt) := by simp [go_sem]
      cases e0 : (x.nd == p)
      · have HE := Lib.hid (show sentUp zs p q (k + 1) = sentUp zs p q k by rw [sentUp, ← hx.out, show useAt x p q = false by unfold useAt; rw [e0]; rfl]; rfl)
        go_wp2_with fail
        refine (implUShare x _).mono ?_
        rintro e w3 ⟨rfl, m3⟩
        replace t0 := m3.cellAt t0
        replace t1 := m3.cellAt t1
        replace t2 := m3.cellAt t2
        replace t3 := m3.cellAt t3
        go_wp2_with fail
        go_roundw
        case rel => exact ⟨k + 1, by omega, by go_num, by rw [HE.out], ((hM.trans MX).trans m3)⟩
        case measure => simp [intOf]; omega
      · cases e1 : (x.ifc == q)
        · have HE := Lib.hid (show sentUp zs p q (k + 1) = sentUp zs p q k by rw [sentUp, ← hx.out, show useAt x p q = false by unfold useAt; rw [e0, e1]; rfl]; rfl)
          go_wp2_with fail
          refine (implUShare x _).mono ?_
          rintro e w3 ⟨rfl, m3⟩
          replace t0 := m3.cellAt t0
          replace t1 := m3.cellAt t1
          replace t2 := m3.cellAt t2
          replace t3 := m3.cellAt t3
          go_wp2_with fail
          go_roundw
          case rel => exact ⟨k + 1, by omega, by go_num, by rw [HE.out], ((hM.trans MX).trans m3)⟩
          case measure => simp [intOf]; omega
        · have HE := Lib.hid (show sentUp zs p q (k + 1) = wrap64 (sentUp zs p q k + x.cnt) by rw [sentUp, ← hx.out, show useAt x p q = true by unfold useAt; rw [e0, e1]; rfl]; rfl)
          go_wp2_with fail
          refine (implUShare x _).mono ?_
          rintro e w3 ⟨rfl, m3⟩
          replace t0 := m3.cellAt t0
          replace t1 := m3.cellAt t1
          replace t2 := m3.cellAt t2
          replace t3 := m3.cellAt t3
          go_wp2_with fail
          go_roundw
          case rel => exact ⟨k + 1, by omega, by go_num, by rw [HE.out], ((hM.trans MX).trans m3)⟩
          case measure => simp [intOf]; omega
    · obtain rfl : k = n2 := by omega
      go_wp2_with fail
      go_ret
      exact ⟨rfl, hM'⟩

def eqSchB (x y : Int) (zs zs' : List TReservation) (n n' : Nat) (us us' : List TUsage) (m m' : Nat) : Bool := (x == y) && (eqResB zs zs' n n' && eqUseB us us' m m')
set_option maxRecDepth 100000 in
set_option maxHeartbeats 4000000 in
theorem implEqSch (x0 x0' : Int) (a1 a1' : Option Addr) (n1 n1' c1 c1' : Nat) (a2 a2' : Option Addr) (n2 n2' c2 c2' B B' : Nat) (zs zs' : List TReservation) (us us' : List TUsage) (w : World) (h1 : HasReservation w B a1 n1 zs) (h1' : HasReservation w B' a1' n1' zs') (h2 : HasUsage w B a2 n2 us) (h2' : HasUsage w B' a2' n2' us') (hB : B ≤ w.heap.size) (hB' : B' ≤ w.heap.size) (hn1 : n1 ≤ 1048576) (hn1' : n1' ≤ 1048576) (hn2 : n2 ≤ 1048576) (hn2' : n2' ≤ 1048576) :
    Calls Try.prog 50 #[.agg #[.int .i64 x0, .slice a1 n1 c1, .slice a2 n2 c2], .agg #[.int .i64 x0', .slice a1' n1' c1', .slice a2' n2' c2']] w fun e w' => e = .returned (.bool (eqSchB x0 x0' zs zs' n1 n1' us us' n2 n2')) ∧ Mk0 w w' := by
  have M0 := (Mk.alloc w (Obj.cells #[Value.int .i64 x0, Value.slice a1 n1 c1, Value.slice a2 n2 c2] 63)).new (Obj.cells #[Value.int .i64 x0', Value.slice a1' n1' c1', Value.slice a2' n2' c2'] 63)
  have hs := Nat.le_trans hB M0.size
  have hs' := Nat.le_trans hB' M0.size
  cases e0 : (x0 == x0')
  · have HR := Lib.hid (show eqSchB x0 x0' zs zs' n1 n1' us us' n2 n2' = false by unfold eqSchB; rw [e0]; simp)
    go_enter Try.func50, Try.ntmps50
    go_wp2_with fail
    go_ret
    exact ⟨retB HR.out.symm, M0⟩
  · cases e1 : eqResB zs zs' n1 n1'
    · have HR := Lib.hid (show eqSchB x0 x0' zs zs' n1 n1' us us' n2 n2' = false by unfold eqSchB; rw [e0, e1]; simp)
      have HO := Lib.hid e1
      clear e1
      have k1_0 : ((w.alloc (Obj.cells #[Value.int .i64 x0, Value.slice a1 n1 c1, Value.slice a2 n2 c2] 63)).alloc (Obj.cells #[Value.int .i64 x0', Value.slice a1' n1' c1', Value.slice a2' n2' c2'] 63)).cell? ⟨w.heap.size, 1, none⟩ = some (.slice a1 n1 c1) := by simp [go_sem]
      have k1_1 : ((w.alloc (Obj.cells #[Value.int .i64 x0, Value.slice a1 n1 c1, Value.slice a2 n2 c2] 63)).alloc (Obj.cells #[Value.int .i64 x0', Value.slice a1' n1' c1', Value.slice a2' n2' c2'] 63)).cell? ⟨w.heap.size + 1, 1, none⟩ = some (.slice a1' n1' c1') := by simp [go_sem]
      have k2_0 : ((w.alloc (Obj.cells #[Value.int .i64 x0, Value.slice a1 n1 c1, Value.slice a2 n2 c2] 63)).alloc (Obj.cells #[Value.int .i64 x0', Value.slice a1' n1' c1', Value.slice a2' n2' c2'] 63)).cell? ⟨w.heap.size, 2, none⟩ = some (.slice a2 n2 c2) := by simp [go_sem]
      have k2_1 : ((w.alloc (Obj.cells #[Value.int .i64 x0, Value.slice a1 n1 c1, Value.slice a2 n2 c2] 63)).alloc (Obj.cells #[Value.int .i64 x0', Value.slice a1' n1' c1', Value.slice a2' n2' c2'] 63)).cell? ⟨w.heap.size + 1, 2, none⟩ = some (.slice a2' n2' c2') := by simp [go_sem]
      go_enter Try.func50, Try.ntmps50
      go_wp2_with fail
      refine (implLeqRes _ _ _ _ _ _ B B' zs zs' _ (h1.mk M0 hB (.inr (Nat.le_refl _))) (h1'.mk M0 hB' (.inr (Nat.le_refl _))) hs hs' hn1 hn1').mono ?_
      rintro e w2 ⟨he, m2⟩
      rw [HO.out] at he
      subst he
      have M2 := M0.trans m2
      replace k1_0 := m2.cellAt k1_0
      replace k1_1 := m2.cellAt k1_1
      replace k2_0 := m2.cellAt k2_0
      replace k2_1 := m2.cellAt k2_1
      go_wp2_with fail
      go_ret
      exact ⟨retB HR.out.symm, M2⟩
    · have HR := Lib.hid (show eqSchB x0 x0' zs zs' n1 n1' us us' n2 n2' = eqUseB us us' n2 n2' by unfold eqSchB; rw [e0, e1]; simp)
      have HO := Lib.hid e1
      clear e1
      have k1_0 : ((w.alloc (Obj.cells #[Value.int .i64 x0, Value.slice a1 n1 c1, Value.slice a2 n2 c2] 63)).alloc (Obj.cells #[Value.int .i64 x0', Value.slice a1' n1' c1', Value.slice a2' n2' c2'] 63)).cell? ⟨w.heap.size, 1, none⟩ = some (.slice a1 n1 c1) := by simp [go_sem]
      have k1_1 : ((w.alloc (Obj.cells #[Value.int .i64 x0, Value.slice a1 n1 c1, Value.slice a2 n2 c2] 63)).alloc (Obj.cells #[Value.int .i64 x0', Value.slice a1' n1' c1', Value.slice a2' n2' c2'] 63)).cell? ⟨w.heap.size + 1, 1, none⟩ = some (.slice a1' n1' c1') := by simp [go_sem]
      have k2_0 : ((w.alloc (Obj.cells #[Value.int .i64 x0, Value.slice a1 n1 c1, Value.slice a2 n2 c2] 63)).alloc (Obj.cells #[Value.int .i64 x0', Value.slice a1' n1' c1', Value.slice a2' n2' c2'] 63)).cell? ⟨w.heap.size, 2, none⟩ = some (.slice a2 n2 c2) := by simp [go_sem]
      have k2_1 : ((w.alloc (Obj.cells #[Value.int .i64 x0, Value.slice a1 n1 c1, Value.slice a2 n2 c2] 63)).alloc (Obj.cells #[Value.int .i64 x0', Value.slice a1' n1' c1', Value.slice a2' n2' c2'] 63)).cell? ⟨w.heap.size + 1, 2, none⟩ = some (.slice a2' n2' c2') := by simp [go_sem]
      go_enter Try.func50, Try.ntmps50
      go_wp2_with fail
      refine (implLeqRes _ _ _ _ _ _ B B' zs zs' _ (h1.mk M0 hB (.inr (Nat.le_refl _))) (h1'.mk M0 hB' (.inr (Nat.le_refl _))) hs hs' hn1 hn1').mono ?_
      rintro e w2 ⟨he, m2⟩
      rw [HO.out] at he
      subst he
      have M2 := M0.trans m2
      replace k1_0 := m2.cellAt k1_0
      replace k1_1 := m2.cellAt k1_1
      replace k2_0 := m2.cellAt k2_0
      replace k2_1 := m2.cellAt k2_1
      go_wp2_with fail
      refine (impleqUse _ _ _ _ _ _ B B' us us' _ (h2.mk M2 hB (.inr (Nat.le_refl _))) (h2'.mk M2 hB' (.inr (Nat.le_refl _))) (Nat.le_trans hB M2.size) (Nat.le_trans hB' M2.size) hn2 hn2').mono ?_
      rintro e w3 ⟨rfl, m3⟩
      go_wp2_with fail
      go_ret
      exact ⟨retB HR.out.symm, M2.trans m3⟩

set_option maxRecDepth 100000 in
set_option maxHeartbeats 4000000 in
theorem specEqSch (x0 x0' : Int) (a1 a1' : Option Addr) (n1 n1' c1 c1' : Nat) (a2 a2' : Option Addr) (n2 n2' c2 c2' B B' : Nat) (zs zs' : List TReservation) (us us' : List TUsage) (w : World) (h1 : HasReservation w B a1 n1 zs) (h1' : HasReservation w B' a1' n1' zs') (h2 : HasUsage w B a2 n2 us) (h2' : HasUsage w B' a2' n2' us') (hB : B ≤ w.heap.size) (hB' : B' ≤ w.heap.size) (hn1 : n1 ≤ 1048576) (hn1' : n1' ≤ 1048576) (hn2 : n2 ≤ 1048576) (hn2' : n2' ≤ 1048576) :
    Calls Try.prog 49 #[.agg #[.int .i64 x0, .slice a1 n1 c1, .slice a2 n2 c2], .agg #[.int .i64 x0', .slice a1' n1' c1', .slice a2' n2' c2']] w fun e w' => e = .returned (.bool (eqSchB x0 x0' zs zs' n1 n1' us us' n2 n2')) ∧ Mk0 w w' := by
  have M0 := (Mk.alloc w (Obj.cells #[Value.int .i64 x0, Value.slice a1 n1 c1, Value.slice a2 n2 c2] 63)).new (Obj.cells #[Value.int .i64 x0', Value.slice a1' n1' c1', Value.slice a2' n2' c2'] 63)
  have hs := Nat.le_trans hB M0.size
  have hs' := Nat.le_trans hB' M0.size
  cases e0 : (x0 == x0')
  · have HR := Lib.hid (show eqSchB x0 x0' zs zs' n1 n1' us us' n2 n2' = false by unfold eqSchB; rw [e0]; simp)
    have g0 : (x0 != x0') = true := by rw [bne, e0]; rfl
    go_enter Try.func49, Try.ntmps49
    go_wp2_with fail
    go_ret
    exact ⟨retB HR.out.symm, M0⟩
  · cases e1 : eqResB zs zs' n1 n1'
    · have g0 : (x0 != x0') = false := by rw [bne, e0]; rfl
      have HR := Lib.hid (show eqSchB x0 x0' zs zs' n1 n1' us us' n2 n2' = false by unfold eqSchB; rw [e0, e1]; simp)
      have HO := Lib.hid e1
      clear e1
      have k1_0 : ((w.alloc (Obj.cells #[Value.int .i64 x0, Value.slice a1 n1 c1, Value.slice a2 n2 c2] 63)).alloc (Obj.cells #[Value.int .i64 x0', Value.slice a1' n1' c1', Value.slice a2' n2' c2'] 63)).cell? ⟨w.heap.size, 1, none⟩ = some (.slice a1 n1 c1) := by simp [go_sem]
      have k1_1 : ((w.alloc (Obj.cells #[Value.int .i64 x0, Value.slice a1 n1 c1, Value.slice a2 n2 c2] 63)).alloc (Obj.cells #[Value.int .i64 x0', Value.slice a1' n1' c1', Value.slice a2' n2' c2'] 63)).cell? ⟨w.heap.size + 1, 1, none⟩ = some (.slice a1' n1' c1') := by simp [go_sem]
      have k2_0 : ((w.alloc (Obj.cells #[Value.int .i64 x0, Value.slice a1 n1 c1, Value.slice a2 n2 c2] 63)).alloc (Obj.cells #[Value.int .i64 x0', Value.slice a1' n1' c1', Value.slice a2' n2' c2'] 63)).cell? ⟨w.heap.size, 2, none⟩ = some (.slice a2 n2 c2) := by simp [go_sem]
      have k2_1 : ((w.alloc (Obj.cells #[Value.int .i64 x0, Value.slice a1 n1 c1, Value.slice a2 n2 c2] 63)).alloc (Obj.cells #[Value.int .i64 x0', Value.slice a1' n1' c1', Value.slice a2' n2' c2'] 63)).cell? ⟨w.heap.size + 1, 2, none⟩ = some (.slice a2' n2' c2') := by simp [go_sem]
      go_enter Try.func49, Try.ntmps49
      go_wp2_with fail
      refine (speceqRes _ _ _ _ _ _ B B' zs zs' _ (h1.mk M0 hB (.inr (Nat.le_refl _))) (h1'.mk M0 hB' (.inr (Nat.le_refl _))) hs hs' hn1 hn1').mono ?_
      rintro e w2 ⟨he, m2⟩
      rw [HO.out] at he
      subst he
      have M2 := M0.trans m2
      replace k1_0 := m2.cellAt k1_0
      replace k1_1 := m2.cellAt k1_1
      replace k2_0 := m2.cellAt k2_0
      replace k2_1 := m2.cellAt k2_1
      go_wp2_with fail
      go_ret
      exact ⟨retB HR.out.symm, M2⟩
    · have g0 : (x0 != x0') = false := by rw [bne, e0]; rfl
      by_cases hz : n2 = n2'
      · subst hz
        have HR := Lib.hid (show eqSchB x0 x0' zs zs' n1 n1' us us' n2 n2 = eqUseB us us' n2 n2 by unfold eqSchB; rw [e0, e1]; simp)
        have HQ := Lib.hid (show eqUseB us us' n2 n2 = eqUseUp us us' n2 from if_pos rfl)
        have HO := Lib.hid e1
        clear e1
        have k1_0 : ((w.alloc (Obj.cells #[Value.int .i64 x0, Value.slice a1 n1 c1, Value.slice a2 n2 c2] 63)).alloc (Obj.cells #[Value.int .i64 x0', Value.slice a1' n1' c1', Value.slice a2' n2 c2'] 63)).cell? ⟨w.heap.size, 1, none⟩ = some (.slice a1 n1 c1) := by simp [go_sem]
        have k1_1 : ((w.alloc (Obj.cells #[Value.int .i64 x0, Value.slice a1 n1 c1, Value.slice a2 n2 c2] 63)).alloc (Obj.cells #[Value.int .i64 x0', Value.slice a1' n1' c1', Value.slice a2' n2 c2'] 63)).cell? ⟨w.heap.size + 1, 1, none⟩ = some (.slice a1' n1' c1') := by simp [go_sem]
        have k2_0 : ((w.alloc (Obj.cells #[Value.int .i64 x0, Value.slice a1 n1 c1, Value.slice a2 n2 c2] 63)).alloc (Obj.cells #[Value.int .i64 x0', Value.slice a1' n1' c1', Value.slice a2' n2 c2'] 63)).cell? ⟨w.heap.size, 2, none⟩ = some (.slice a2 n2 c2) := by simp [go_sem]
        have k2_1 : ((w.alloc (Obj.cells #[Value.int .i64 x0, Value.slice a1 n1 c1, Value.slice a2 n2 c2] 63)).alloc (Obj.cells #[Value.int .i64 x0', Value.slice a1' n1' c1', Value.slice a2' n2 c2'] 63)).cell? ⟨w.heap.size + 1, 2, none⟩ = some (.slice a2' n2 c2') := by simp [go_sem]
        go_enter Try.func49, Try.ntmps49
        go_wp2_with fail
        refine (speceqRes _ _ _ _ _ _ B B' zs zs' _ (h1.mk M0 hB (.inr (Nat.le_refl _))) (h1'.mk M0 hB' (.inr (Nat.le_refl _))) hs hs' hn1 hn1').mono ?_
        rintro e w2 ⟨he, m2⟩
        rw [HO.out] at he
        subst he
        have M2 := M0.trans m2
        replace k1_0 := m2.cellAt k1_0
        replace k1_1 := m2.cellAt k1_1
        replace k2_0 := m2.cellAt k2_0
        replace k2_1 := m2.cellAt k2_1
        go_wp2_with fail
        go_loopw [4, 5] (fun r i wr => r = .bool false ∧ ∃ k m : Nat, k ≤ n2 ∧ i = .int .i64 k ∧ Hid (eqUseUp us us' k = true) ∧ wr = w2.drewN m) (fun _ i _ => n2 - (intOf i).toNat)
        case atStart => exact ⟨rfl, 0, 0, Nat.zero_le _, rfl, rfl, rfl⟩
        case round =>
          obtain ⟨rfl, k, m, hk, rfl, hS, rfl⟩ := hrel
          by_cases hlt : k < n2
          · obtain ⟨b, off, x, rfl, hb, hx, c0, c1_, c2_, c3⟩ := HasUsage.at _ _ _ _ _ _ (h2.mk M2 hB (.inr (Nat.le_refl _))) hlt
            obtain ⟨b', off', y, rfl, hb', hy, d0, d1, d2, d3⟩ := HasUsage.at _ _ _ _ _ _ (h2'.mk M2 hB' (.inr (Nat.le_refl _))) hlt
            cases q0 : (x.id == y.id)
            · have HE := Lib.hid (show eqUseB us us' n2 n2 = false by rw [HQ.out]; exact eqUseUp_stop (by rw [← hx.out, ← hy.out]; unfold eqUsesame; rw [q0]; rfl) n2 hlt)
              go_wp2_with fail
              go_quiet (fail)
              go_wp2_with fail
              go_ret
              exact ⟨retB (by rw [HR.out, HE.out]), M2.trans ((Mk.drewN _ _).trans (Mk.drewN _ _))⟩
            · cases q1 : (x.nd == y.nd)
              · have HE := Lib.hid (show eqUseB us us' n2 n2 = false by rw [HQ.out]; exact eqUseUp_stop (by rw [← hx.out, ← hy.out]; unfold eqUsesame; rw [q0, q1]; rfl) n2 hlt)
                go_wp2_with fail
                go_quiet (fail)
                go_wp2_with fail
                go_ret
                exact ⟨retB (by rw [HR.out, HE.out]), M2.trans ((Mk.drewN _ _).trans (Mk.drewN _ _))⟩
              · cases q2 : (x.ifc == y.ifc)
                · have HE := Lib.hid (show eqUseB us us' n2 n2 = false by rw [HQ.out]; exact eqUseUp_stop (by rw [← hx.out, ← hy.out]; unfold eqUsesame; rw [q0, q1, q2]; rfl) n2 hlt)
                  go_wp2_with fail
                  go_quiet (fail)
                  go_wp2_with fail
                  go_ret
                  exact ⟨retB (by rw [HR.out, HE.out]), M2.trans ((Mk.drewN _ _).trans (Mk.drewN _ _))⟩
                · cases q3 : (x.cnt == y.cnt)
                  · have HE := Lib.hid (show eqUseB us us' n2 n2 = false by rw [HQ.out]; exact eqUseUp_stop (by rw [← hx.out, ← hy.out]; unfold eqUsesame; rw [q0, q1, q2, q3]; rfl) n2 hlt)
                    go_wp2_with fail
                    go_quiet (fail)
                    go_wp2_with fail
                    go_ret
                    exact ⟨retB (by rw [HR.out, HE.out]), M2.trans ((Mk.drewN _ _).trans (Mk.drewN _ _))⟩
                  · have HE := Lib.hid (eqUseUp_go hS.out (by rw [← hx.out, ← hy.out]; unfold eqUsesame; rw [q0, q1, q2, q3]; rfl))
                    go_wp2_with fail
                    go_quiet (fail)
                    go_wp2_with fail
                    go_roundw
                    case rel => exact ⟨rfl, k + 1, _, by omega, by go_num, HE.out, rfl⟩
                    case measure => simp [intOf]; omega
          · obtain rfl : k = n2 := by omega
            go_wp2_with fail
            go_ret
            exact ⟨retB (by rw [HR.out, HQ.out, hS.out]), M2.trans (Mk.drewN _ _)⟩
      · have hz' : (((n2 : Int)) != ((n2' : Int))) = true := by simp; omega
        have HR := Lib.hid (show eqSchB x0 x0' zs zs' n1 n1' us us' n2 n2' = false by unfold eqSchB; rw [e0, e1, show eqUseB us us' n2 n2' = false from if_neg hz]; simp)
        have HO := Lib.hid e1
        clear e1
        have k1_0 : ((w.alloc (Obj.cells #[Value.int .i64 x0, Value.slice a1 n1 c1, Value.slice a2 n2 c2] 63)).alloc (Obj.cells #[Value.int .i64 x0', Value.slice a1' n1' c1', Value.slice a2' n2' c2'] 63)).cell? ⟨w.heap.size, 1, none⟩ = some (.slice a1 n1 c1) := by simp [go_sem]
        have k1_1 : ((w.alloc (Obj.cells #[Value.int .i64 x0, Value.slice a1 n1 c1, Value.slice a2 n2 c2] 63)).alloc (Obj.cells #[Value.int .i64 x0', Value.slice a1' n1' c1', Value.slice a2' n2' c2'] 63)).cell? ⟨w.heap.size + 1, 1, none⟩ = some (.slice a1' n1' c1') := by simp [go_sem]
        have k2_0 : ((w.alloc (Obj.cells #[Value.int .i64 x0, Value.slice a1 n1 c1, Value.slice a2 n2 c2] 63)).alloc (Obj.cells #[Value.int .i64 x0', Value.slice a1' n1' c1', Value.slice a2' n2' c2'] 63)).cell? ⟨w.heap.size, 2, none⟩ = some (.slice a2 n2 c2) := by simp [go_sem]
        have k2_1 : ((w.alloc (Obj.cells #[Value.int .i64 x0, Value.slice a1 n1 c1, Value.slice a2 n2 c2] 63)).alloc (Obj.cells #[Value.int .i64 x0', Value.slice a1' n1' c1', Value.slice a2' n2' c2'] 63)).cell? ⟨w.heap.size + 1, 2, none⟩ = some (.slice a2' n2' c2') := by simp [go_sem]
        go_enter Try.func49, Try.ntmps49
        go_wp2_with fail
        refine (speceqRes _ _ _ _ _ _ B B' zs zs' _ (h1.mk M0 hB (.inr (Nat.le_refl _))) (h1'.mk M0 hB' (.inr (Nat.le_refl _))) hs hs' hn1 hn1').mono ?_
        rintro e w2 ⟨he, m2⟩
        rw [HO.out] at he
        subst he
        have M2 := M0.trans m2
        replace k1_0 := m2.cellAt k1_0
        replace k1_1 := m2.cellAt k1_1
        replace k2_0 := m2.cellAt k2_0
        replace k2_1 := m2.cellAt k2_1
        go_wp2_with fail
        go_ret
        exact ⟨retB HR.out.symm, M2⟩

end Go.Proofs.Ytdlbncpjdldkoaa
