
/- OriginInterfaces of both sides. -/
import Derived.Test.YtbbcpdgdihdmiaaGreatDoorOrigI
import Derived.Test.YtbbcpdgdihdmiaaGreatDoorOrigS
import Derived.Test.YtbbcpdgdihdmiaaGreatDoorDig
import Derived.Test.YtbbcpdgdihdmiaaGreatDoorAppR
namespace Go.Proofs.YtbbcpdgdihdmiaaGreatDoor
open Go.ChangeShapes Go.WideShapes Go.ChangeAt Go.RowKit
set_option linter.unusedVariables false
/-- The numbers from 1 to k that f picks. -/
def pickI (f : Int → Bool) : Nat → List Int
  | 0 => []
  | k + 1 => if f ((k : Int) + 1) = true then pickI f k ++ [(k : Int) + 1] else pickI f k
theorem pickI_le (f : Int → Bool) : ∀ k, (pickI f k).length ≤ k
  | 0 => by simp [pickI]
  | k + 1 => by
    have := pickI_le f k
    rw [pickI]
    split
    · simp; omega
    · omega
def ornF (zA : List TAS) (n0 : Nat) (zl : List TLink) (n1 : Nat) (p : TPolicy) (r : Int) (d : Int) : Bool := orB zA n0 zl n1 p r d 0 0
set_option maxRecDepth 100000 in
set_option maxHeartbeats 4000000 in
theorem specOrn (a0 a1 : Option Addr) (n0 c0 n1 c1 B : Nat) (zA : List TAS) (zl : List TLink) (p : TPolicy) (r : Int) (w : World) (hA : HasAS w B a0 n0 zA) (hl : HasLink w B a1 n1 zl) (hB : B ≤ w.heap.size) (hn0 : n0 ≤ 1048576) (hn1 : n1 ≤ 1048576) (hz : ∀ y ∈ zA, TAS.fits y) (hr : (Lit.int .i64 r).wf = true) :
    Calls Tryz.prog 29 #[.agg #[.slice a0 n0 c0, .slice a1 n1 c1], .agg #[.int .i64 p.len, .int .i64 p.denied, .int .i64 p.closed, .int .i64 p.life], .int .i64 r] w (OutR .i64 w (pickI (ornF zA n0 zl n1 p r) 6)) := by
  have M0 : Mk0 w ((w.alloc (Obj.cells #[Value.slice a0 n0 c0, Value.slice a1 n1 c1] 37)).alloc (Obj.cells #[Value.int .i64 p.len, Value.int .i64 p.denied, Value.int .i64 p.closed, Value.int .i64 p.life] 39)) := ((Mk.alloc w (Obj.cells #[Value.slice a0 n0 c0, Value.slice a1 n1 c1] 37)).new (Obj.cells #[Value.int .i64 p.len, Value.int .i64 p.denied, Value.int .i64 p.closed, Value.int .i64 p.life] 39))
  have k0 : ((w.alloc (Obj.cells #[Value.slice a0 n0 c0, Value.slice a1 n1 c1] 37)).alloc (Obj.cells #[Value.int .i64 p.len, Value.int .i64 p.denied, Value.int .i64 p.closed, Value.int .i64 p.life] 39)).cell? ⟨w.heap.size, 0, none⟩ = some (.slice a0 n0 c0) := by simp [go_sem]
  have k1 : ((w.alloc (Obj.cells #[Value.slice a0 n0 c0, Value.slice a1 n1 c1] 37)).alloc (Obj.cells #[Value.int .i64 p.len, Value.int .i64 p.denied, Value.int .i64 p.closed, Value.int .i64 p.life] 39)).cell? ⟨w.heap.size, 1, none⟩ = some (.slice a1 n1 c1) := by simp [go_sem]
  have p0 : ((w.alloc (Obj.cells #[Value.slice a0 n0 c0, Value.slice a1 n1 c1] 37)).alloc (Obj.cells #[Value.int .i64 p.len, Value.int .i64 p.denied, Value.int .i64 p.closed, Value.int .i64 p.life] 39)).cell? ⟨w.heap.size + 1, 0, none⟩ = some (.int .i64 p.len) := by simp [go_sem]
  have p1 : ((w.alloc (Obj.cells #[Value.slice a0 n0 c0, Value.slice a1 n1 c1] 37)).alloc (Obj.cells #[Value.int .i64 p.len, Value.int .i64 p.denied, Value.int .i64 p.closed, Value.int .i64 p.life] 39)).cell? ⟨w.heap.size + 1, 1, none⟩ = some (.int .i64 p.denied) := by simp [go_sem]
  have p2 : ((w.alloc (Obj.cells #[Value.slice a0 n0 c0, Value.slice a1 n1 c1] 37)).alloc (Obj.cells #[Value.int .i64 p.len, Value.int .i64 p.denied, Value.int .i64 p.closed, Value.int .i64 p.life] 39)).cell? ⟨w.heap.size + 1, 2, none⟩ = some (.int .i64 p.closed) := by simp [go_sem]
  have p3 : ((w.alloc (Obj.cells #[Value.slice a0 n0 c0, Value.slice a1 n1 c1] 37)).alloc (Obj.cells #[Value.int .i64 p.len, Value.int .i64 p.denied, Value.int .i64 p.closed, Value.int .i64 p.life] 39)).cell? ⟨w.heap.size + 1, 3, none⟩ = some (.int .i64 p.life) := by simp [go_sem]
  have hs0 : ((w.alloc (Obj.cells #[Value.slice a0 n0 c0, Value.slice a1 n1 c1] 37)).alloc (Obj.cells #[Value.int .i64 p.len, Value.int .i64 p.denied, Value.int .i64 p.closed, Value.int .i64 p.life] 39)).heap.size = w.heap.size + 1 + 1 := by simp only [World.size_alloc]
  have HZ := Lib.hid hz
  have HR := Lib.hid hr
  clear hz hr
  obtain ⟨i0, hi, hz0, hz1, hz2⟩ := info_parts infoI64
  have hby : i0.bytes ≤ 8 := by rw [hz2]; decide
  go_enter Tryz.func29, Tryz.ntmps29
  go_wp2_with fail
  generalize ((w.alloc (Obj.cells #[Value.slice a0 n0 c0, Value.slice a1 n1 c1] 37)).alloc (Obj.cells #[Value.int .i64 p.len, Value.int .i64 p.denied, Value.int .i64 p.closed, Value.int .i64 p.life] 39)) = wb at *
  have hown0 : (wb.alloc (.cells #[] 3)).ownsRow wb.heap.size 3 1 (.slice (some ⟨wb.heap.size, 0, none⟩) 0 0) 0 (([] : List Int).map (.int .i64)) := own_lit wb 3 [] (by simp)
  rw [hs0] at hown0
  go_loopw [7, 8] (fun v ix wr => ∃ k : Nat, k ≤ 6 ∧ ix = .int .i64 ((k : Int) + 1) ∧ wr.ownsRow (w.heap.size + 1 + 1) 3 1 v (pickI (ornF zA n0 zl n1 p r) k).length ((pickI (ornF zA n0 zl n1 p r) k).map (.int .i64)) ∧ Mk0 wb wr) (fun _ ix _ => 7 - (intOf ix).toNat)
  case atStart => exact ⟨0, Nat.zero_le _, rfl, hown0, Mk.alloc wb _⟩
  case round =>
    clear hown0
    obtain ⟨k, hk, rfl, hown, hM⟩ := hrel
    have k0' := hM.cellAt k0
    have k1' := hM.cellAt k1
    have p0' := hM.cellAt p0
    have p1' := hM.cellAt p1
    have p2' := hM.cellAt p2
    have p3' := hM.cellAt p3
    have hM' := M0.trans hM
    have hul := pickI_le (ornF zA n0 zl n1 p r) k
    obtain ⟨L, hL⟩ : ∃ L, Hid (L = pickI (ornF zA n0 zl n1 p r) k) := ⟨_, Lib.hid rfl⟩
    rw [← hL.out] at hown hul
    have i0k : (0 : Int) ≤ (k : Int) := by omega
    by_cases hlt : k < 6
    · have i2 : ((k : Int) + 1) ≤ 6 := by omega
      have HK := Lib.hid (show (Lit.int .i64 ((k : Int) + 1)).wf = true from by simp only [Lit.wf, Bool.and_eq_true, decide_eq_true_eq]; rw [show IntKind.i64.min = -9223372036854775808 by decide, show IntKind.i64.max = 9223372036854775807 by decide]; omega)
      obtain ⟨bb, hbb⟩ : ∃ bb, Hid (bb = orB zA n0 zl n1 p r ((k : Int) + 1) 0 0) := ⟨_, Lib.hid rfl⟩
      have KO := specOriginate a0 a1 n0 c0 n1 c1 B zA zl p r ((k : Int) + 1) 0 0 wr (hA.mk hM' hB (.inr (Nat.le_refl _))) (hl.mk hM' hB (.inr (Nat.le_refl _))) (Nat.le_trans hB hM'.size) hn0 hn1 HZ.out (by decide) (by decide) HR.out HK.out
      rw [← hbb.out] at KO
      go_wp2_with fail
      refine KO.mono ?_
      rintro e w2 ⟨A, N, C, rfl, hc, hO, m2⟩
      clear hO hc KO
      skip
      cases bb
      · have HE := Lib.hid (show pickI (ornF zA n0 zl n1 p r) (k + 1) = L by rw [pickI, if_neg (by unfold ornF; rw [← hbb.out]; decide), hL.out])
        go_wp2_with fail
        go_roundw
        case rel => exact ⟨k + 1, by omega, by go_num, by rw [HE.out]; exact own_keptR hown (m2.new (Obj.cells #[Value.int .i64 (orT false 0), Value.int .i64 (orT false 0), Value.slice A N C] 31)), hM.trans (m2.new (Obj.cells #[Value.int .i64 (orT false 0), Value.int .i64 (orT false 0), Value.slice A N C] 31))⟩
        case measure => simp [intOf]; omega
      · have HE := Lib.hid (show pickI (ornF zA n0 zl n1 p r) (k + 1) = L ++ [((k : Int) + 1)] by rw [pickI, if_pos (by unfold ornF; rw [← hbb.out]), hL.out])
        have mF : Mk0 wr (w2.alloc (Obj.cells #[Value.int .i64 (orT true 0), Value.int .i64 (orT true 0), Value.slice A N C] 31)) := (m2.new (Obj.cells #[Value.int .i64 (orT true 0), Value.int .i64 (orT true 0), Value.slice A N C] 31))
        have hN := has_new .i64 (w2.alloc (Obj.cells #[Value.int .i64 (orT true 0), Value.int .i64 (orT true 0), Value.slice A N C] 31)) 3 ((k : Int) + 1)
        rw [World.size_alloc w2] at hN
        have MA := Mk.alloc (w2.alloc (Obj.cells #[Value.int .i64 (orT true 0), Value.int .i64 (orT true 0), Value.slice A N C] 31)) (.cells #[.int .i64 ((k : Int) + 1)] 3)
        have ho' := own_keptR (own_keptR hown mF) MA
        have hsz := ((hM.trans mF).trans MA).size
        rw [hs0] at hsz
        go_wp2_with (at_builtin; refine wpList_app rfl (.tmp 25) (.tmp 27) 55 rfl _ 3 i0 Tryz.underlying55 hi hz0 hz1 hby _ L L.length rfl ho' _ 1 1 [((k : Int) + 1)] rfl (fun h => by cases h) hN (by omega) hsz ?_; intro v3 w3 ho3 hg3 hat3)
        have M3 := (hM.trans (mF.trans MA)).appR hg3 (fun g hg => by have := (ho'.lt g hg).1; omega)
        clear hat3
        go_wp2_with fail
        go_roundw
        case rel => exact ⟨k + 1, by omega, by go_num, by rw [HE.out, List.length_append]; exact ho3, M3⟩
        case measure => simp [intOf]; omega
    · obtain rfl : k = 6 := by omega
      obtain ⟨A3, C3, rfl, hA3, hN3⟩ := ownsRow_sliceR2 hown
      have hO3 := ownsRow_own hown
      go_wp2_with fail
      go_ret
      exact ⟨A3, _, C3, rfl, hA3, by rw [← hL.out]; exact hO3.low (by omega), hM'.below0⟩

set_option maxRecDepth 100000 in
set_option maxHeartbeats 4000000 in
theorem implOrn (a0 a1 : Option Addr) (n0 c0 n1 c1 B : Nat) (zA : List TAS) (zl : List TLink) (p : TPolicy) (r : Int) (w : World) (hA : HasAS w B a0 n0 zA) (hl : HasLink w B a1 n1 zl) (hB : B ≤ w.heap.size) (hn0 : n0 ≤ 1048576) (hn1 : n1 ≤ 1048576) (hz : ∀ y ∈ zA, TAS.fits y) (hr : (Lit.int .i64 r).wf = true) (hg : w.cell? ⟨0, 0, none⟩ = some (.iface 161 (.agg #[.pointer (some ⟨1, 139, none⟩)]))) :
    Calls Tryz.prog 30 #[.agg #[.slice a0 n0 c0, .slice a1 n1 c1], .agg #[.int .i64 p.len, .int .i64 p.denied, .int .i64 p.closed, .int .i64 p.life], .int .i64 r] w (OutR .i64 w (pickI (ornF zA n0 zl n1 p r) 6)) := by
  have M0 : Mk0 w ((w.alloc (Obj.cells #[Value.slice a0 n0 c0, Value.slice a1 n1 c1] 37)).alloc (Obj.cells #[Value.int .i64 p.len, Value.int .i64 p.denied, Value.int .i64 p.closed, Value.int .i64 p.life] 39)) := ((Mk.alloc w (Obj.cells #[Value.slice a0 n0 c0, Value.slice a1 n1 c1] 37)).new (Obj.cells #[Value.int .i64 p.len, Value.int .i64 p.denied, Value.int .i64 p.closed, Value.int .i64 p.life] 39))
  have k0 : ((w.alloc (Obj.cells #[Value.slice a0 n0 c0, Value.slice a1 n1 c1] 37)).alloc (Obj.cells #[Value.int .i64 p.len, Value.int .i64 p.denied, Value.int .i64 p.closed, Value.int .i64 p.life] 39)).cell? ⟨w.heap.size, 0, none⟩ = some (.slice a0 n0 c0) := by simp [go_sem]
  have k1 : ((w.alloc (Obj.cells #[Value.slice a0 n0 c0, Value.slice a1 n1 c1] 37)).alloc (Obj.cells #[Value.int .i64 p.len, Value.int .i64 p.denied, Value.int .i64 p.closed, Value.int .i64 p.life] 39)).cell? ⟨w.heap.size, 1, none⟩ = some (.slice a1 n1 c1) := by simp [go_sem]
  have p0 : ((w.alloc (Obj.cells #[Value.slice a0 n0 c0, Value.slice a1 n1 c1] 37)).alloc (Obj.cells #[Value.int .i64 p.len, Value.int .i64 p.denied, Value.int .i64 p.closed, Value.int .i64 p.life] 39)).cell? ⟨w.heap.size + 1, 0, none⟩ = some (.int .i64 p.len) := by simp [go_sem]
  have p1 : ((w.alloc (Obj.cells #[Value.slice a0 n0 c0, Value.slice a1 n1 c1] 37)).alloc (Obj.cells #[Value.int .i64 p.len, Value.int .i64 p.denied, Value.int .i64 p.closed, Value.int .i64 p.life] 39)).cell? ⟨w.heap.size + 1, 1, none⟩ = some (.int .i64 p.denied) := by simp [go_sem]
  have p2 : ((w.alloc (Obj.cells #[Value.slice a0 n0 c0, Value.slice a1 n1 c1] 37)).alloc (Obj.cells #[Value.int .i64 p.len, Value.int .i64 p.denied, Value.int .i64 p.closed, Value.int .i64 p.life] 39)).cell? ⟨w.heap.size + 1, 2, none⟩ = some (.int .i64 p.closed) := by simp [go_sem]
  have p3 : ((w.alloc (Obj.cells #[Value.slice a0 n0 c0, Value.slice a1 n1 c1] 37)).alloc (Obj.cells #[Value.int .i64 p.len, Value.int .i64 p.denied, Value.int .i64 p.closed, Value.int .i64 p.life] 39)).cell? ⟨w.heap.size + 1, 3, none⟩ = some (.int .i64 p.life) := by simp [go_sem]
  have hs0 : ((w.alloc (Obj.cells #[Value.slice a0 n0 c0, Value.slice a1 n1 c1] 37)).alloc (Obj.cells #[Value.int .i64 p.len, Value.int .i64 p.denied, Value.int .i64 p.closed, Value.int .i64 p.life] 39)).heap.size = w.heap.size + 1 + 1 := by simp only [World.size_alloc]
  have HZ := Lib.hid hz
  have HR := Lib.hid hr
  clear hz hr
  have HG := Lib.hid (M0.cellAt hg)
  clear hg
  obtain ⟨i0, hi, hz0, hz1, hz2⟩ := info_parts infoI64
  have hby : i0.bytes ≤ 8 := by rw [hz2]; decide
  go_enter Tryz.func30, Tryz.ntmps30
  go_wp2_with fail
  generalize ((w.alloc (Obj.cells #[Value.slice a0 n0 c0, Value.slice a1 n1 c1] 37)).alloc (Obj.cells #[Value.int .i64 p.len, Value.int .i64 p.denied, Value.int .i64 p.closed, Value.int .i64 p.life] 39)) = wb at *
  have hown0 : (wb.alloc (.cells #[] 3)).ownsRow wb.heap.size 3 1 (.slice (some ⟨wb.heap.size, 0, none⟩) 0 0) 0 (([] : List Int).map (.int .i64)) := own_lit wb 3 [] (by simp)
  rw [hs0] at hown0
  go_loopw [7, 8] (fun v ix wr => ∃ k : Nat, k ≤ 6 ∧ ix = .int .i64 ((k : Int) + 1) ∧ wr.ownsRow (w.heap.size + 1 + 1) 3 1 v (pickI (ornF zA n0 zl n1 p r) k).length ((pickI (ornF zA n0 zl n1 p r) k).map (.int .i64)) ∧ Mk0 wb wr) (fun _ ix _ => 7 - (intOf ix).toNat)
  case atStart => exact ⟨0, Nat.zero_le _, rfl, hown0, Mk.alloc wb _⟩
  case round =>
    clear hown0
    obtain ⟨k, hk, rfl, hown, hM⟩ := hrel
    have k0' := hM.cellAt k0
    have k1' := hM.cellAt k1
    have p0' := hM.cellAt p0
    have p1' := hM.cellAt p1
    have p2' := hM.cellAt p2
    have p3' := hM.cellAt p3
    have hM' := M0.trans hM
    have hul := pickI_le (ornF zA n0 zl n1 p r) k
    obtain ⟨L, hL⟩ : ∃ L, Hid (L = pickI (ornF zA n0 zl n1 p r) k) := ⟨_, Lib.hid rfl⟩
    rw [← hL.out] at hown hul
    have i0k : (0 : Int) ≤ (k : Int) := by omega
    by_cases hlt : k < 6
    · have i2 : ((k : Int) + 1) ≤ 6 := by omega
      have HK := Lib.hid (show (Lit.int .i64 ((k : Int) + 1)).wf = true from by simp only [Lit.wf, Bool.and_eq_true, decide_eq_true_eq]; rw [show IntKind.i64.min = -9223372036854775808 by decide, show IntKind.i64.max = 9223372036854775807 by decide]; omega)
      obtain ⟨bb, hbb⟩ : ∃ bb, Hid (bb = orB zA n0 zl n1 p r ((k : Int) + 1) 0 0) := ⟨_, Lib.hid rfl⟩
      have KO := implOriginate a0 a1 n0 c0 n1 c1 B zA zl p r ((k : Int) + 1) 0 0 wr (hA.mk hM' hB (.inr (Nat.le_refl _))) (hl.mk hM' hB (.inr (Nat.le_refl _))) (Nat.le_trans hB hM'.size) hn0 hn1 HZ.out (by decide) (by decide) HR.out HK.out (hM.cellAt HG.out)
      rw [← hbb.out] at KO
      go_wp2_with fail
      refine KO.mono ?_
      rintro e w2 ⟨A, N, C, rfl, hc, hO, m2⟩
      clear hO hc KO
      skip
      cases bb
      · have HE := Lib.hid (show pickI (ornF zA n0 zl n1 p r) (k + 1) = L by rw [pickI, if_neg (by unfold ornF; rw [← hbb.out]; decide), hL.out])
        go_wp2_with fail
        go_roundw
        case rel => exact ⟨k + 1, by omega, by go_num, by rw [HE.out]; exact own_keptR hown (m2.new (Obj.cells #[Value.int .i64 (orT false 0), Value.int .i64 (orT false 0), Value.slice A N C] 31)), hM.trans (m2.new (Obj.cells #[Value.int .i64 (orT false 0), Value.int .i64 (orT false 0), Value.slice A N C] 31))⟩
        case measure => simp [intOf]; omega
      · have HE := Lib.hid (show pickI (ornF zA n0 zl n1 p r) (k + 1) = L ++ [((k : Int) + 1)] by rw [pickI, if_pos (by unfold ornF; rw [← hbb.out]), hL.out])
        have mF : Mk0 wr (w2.alloc (Obj.cells #[Value.int .i64 (orT true 0), Value.int .i64 (orT true 0), Value.slice A N C] 31)) := (m2.new (Obj.cells #[Value.int .i64 (orT true 0), Value.int .i64 (orT true 0), Value.slice A N C] 31))
        have hN := has_new .i64 (w2.alloc (Obj.cells #[Value.int .i64 (orT true 0), Value.int .i64 (orT true 0), Value.slice A N C] 31)) 3 ((k : Int) + 1)
        rw [World.size_alloc w2] at hN
        have MA := Mk.alloc (w2.alloc (Obj.cells #[Value.int .i64 (orT true 0), Value.int .i64 (orT true 0), Value.slice A N C] 31)) (.cells #[.int .i64 ((k : Int) + 1)] 3)
        have ho' := own_keptR (own_keptR hown mF) MA
        have hsz := ((hM.trans mF).trans MA).size
        rw [hs0] at hsz
        go_wp2_with (at_builtin; refine wpList_app rfl (.tmp 25) (.tmp 27) 55 rfl _ 3 i0 Tryz.underlying55 hi hz0 hz1 hby _ L L.length rfl ho' _ 1 1 [((k : Int) + 1)] rfl (fun h => by cases h) hN (by omega) hsz ?_; intro v3 w3 ho3 hg3 hat3)
        have M3 := (hM.trans (mF.trans MA)).appR hg3 (fun g hg => by have := (ho'.lt g hg).1; omega)
        clear hat3
        go_wp2_with fail
        go_roundw
        case rel => exact ⟨k + 1, by omega, by go_num, by rw [HE.out, List.length_append]; exact ho3, M3⟩
        case measure => simp [intOf]; omega
    · obtain rfl : k = 6 := by omega
      obtain ⟨A3, C3, rfl, hA3, hN3⟩ := ownsRow_sliceR2 hown
      have hO3 := ownsRow_own hown
      go_wp2_with fail
      go_ret
      exact ⟨A3, _, C3, rfl, hA3, by rw [← hL.out]; exact hO3.low (by omega), hM'.below0⟩

end Go.Proofs.YtbbcpdgdihdmiaaGreatDoor
