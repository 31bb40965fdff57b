
/- EgressCandidates of both sides. -/
import Derived.Test.YtbbcpdgdihdmiaaGreatDoorExtI
import Derived.Test.YtbbcpdgdihdmiaaGreatDoorExtS
import Derived.Test.YtbbcpdgdihdmiaaGreatDoorDig
import Derived.Test.YtbbcpdgdihdmiaaGreatDoorAppR
namespace Go.Proofs.YtbbcpdgdihdmiaaGreatDoor
open Go.ChangeShapes Go.WideShapes Go.ChangeAt Go.RowKit
set_option linter.unusedVariables false
/-- The numbers from 1 to k that f picks. -/
def pickI (f : Int → Bool) : Nat → List Int
  | 0 => []
  | k + 1 => if f ((k : Int) + 1) = true then pickI f k ++ [(k : Int) + 1] else pickI f k
theorem pickI_le (f : Int → Bool) : ∀ k, (pickI f k).length ≤ k
  | 0 => by simp [pickI]
  | k + 1 => by
    have := pickI_le f k
    rw [pickI]
    split
    · simp; omega
    · omega
def egrF (n0 : Nat) (zA : List TAS) (zl : List TLink) (n1 : Nat) (p : TPolicy) (x0 x1 : Int) (hs : List THop) (n : Nat) (r i : Int) (d : Int) : Bool :=
  exB n0 zA zl n1 p x0 x1 hs n r i d && !((remote zl r d n1).1 == r) && !inUp (fun j => (colN THop.nd hs n).getD j 0) (remote zl r d n1).1 n
set_option maxRecDepth 100000 in
set_option maxHeartbeats 16000000 in
theorem specEgr (a0 a1 : Option Addr) (n0 c0 n1 c1 B : Nat) (zA : List TAS) (zl : List TLink) (p : TPolicy) (x0 x1 : Int) (a : Option Addr) (n c B' : Nat) (hs : List THop) (r i : Int) (w : World) (hA : HasAS w B a0 n0 zA) (hl : HasLink w B a1 n1 zl) (hB : B ≤ w.heap.size) (hn0 : n0 ≤ 1048576) (hn1 : n1 ≤ 1048576) (h : HasHop w B' a n hs) (hB' : B' ≤ w.heap.size) (hn : n ≤ 1048576) (hc0 : a = none → c = 0) (hnc : n ≤ c) (hz : ∀ y ∈ zA, TAS.fits y) (ht : (Lit.int .i64 x0).wf = true) (hb : (Lit.int .i64 x1).wf = true) (hr : (Lit.int .i64 r).wf = true) (hi1 : (Lit.int .i64 i).wf = true) (hf : ∀ y ∈ hs, THop.fits y) :
    Calls Tryz.prog 24 #[.agg #[.slice a0 n0 c0, .slice a1 n1 c1], .agg #[.int .i64 p.len, .int .i64 p.denied, .int .i64 p.closed, .int .i64 p.life], .agg #[.int .i64 x0, .int .i64 x1, .slice a n c], .int .i64 r, .int .i64 i] w (OutR .i64 w (pickI (egrF n0 zA zl n1 p x0 x1 hs n r i) 6)) := by
  have M0 : Mk0 w (((w.alloc (Obj.cells #[Value.slice a0 n0 c0, Value.slice a1 n1 c1] 37)).alloc (Obj.cells #[Value.int .i64 p.len, Value.int .i64 p.denied, Value.int .i64 p.closed, Value.int .i64 p.life] 39)).alloc (Obj.cells #[Value.int .i64 x0, Value.int .i64 x1, Value.slice a n c] 31)) := (((Mk.alloc w (Obj.cells #[Value.slice a0 n0 c0, Value.slice a1 n1 c1] 37)).new (Obj.cells #[Value.int .i64 p.len, Value.int .i64 p.denied, Value.int .i64 p.closed, Value.int .i64 p.life] 39)).new (Obj.cells #[Value.int .i64 x0, Value.int .i64 x1, Value.slice a n c] 31))
  have k0 : (((w.alloc (Obj.cells #[Value.slice a0 n0 c0, Value.slice a1 n1 c1] 37)).alloc (Obj.cells #[Value.int .i64 p.len, Value.int .i64 p.denied, Value.int .i64 p.closed, Value.int .i64 p.life] 39)).alloc (Obj.cells #[Value.int .i64 x0, Value.int .i64 x1, Value.slice a n c] 31)).cell? ⟨w.heap.size, 0, none⟩ = some (.slice a0 n0 c0) := by simp [go_sem]
  have k1 : (((w.alloc (Obj.cells #[Value.slice a0 n0 c0, Value.slice a1 n1 c1] 37)).alloc (Obj.cells #[Value.int .i64 p.len, Value.int .i64 p.denied, Value.int .i64 p.closed, Value.int .i64 p.life] 39)).alloc (Obj.cells #[Value.int .i64 x0, Value.int .i64 x1, Value.slice a n c] 31)).cell? ⟨w.heap.size, 1, none⟩ = some (.slice a1 n1 c1) := by simp [go_sem]
  have p0 : (((w.alloc (Obj.cells #[Value.slice a0 n0 c0, Value.slice a1 n1 c1] 37)).alloc (Obj.cells #[Value.int .i64 p.len, Value.int .i64 p.denied, Value.int .i64 p.closed, Value.int .i64 p.life] 39)).alloc (Obj.cells #[Value.int .i64 x0, Value.int .i64 x1, Value.slice a n c] 31)).cell? ⟨w.heap.size + 1, 0, none⟩ = some (.int .i64 p.len) := by simp [go_sem]
  have p1 : (((w.alloc (Obj.cells #[Value.slice a0 n0 c0, Value.slice a1 n1 c1] 37)).alloc (Obj.cells #[Value.int .i64 p.len, Value.int .i64 p.denied, Value.int .i64 p.closed, Value.int .i64 p.life] 39)).alloc (Obj.cells #[Value.int .i64 x0, Value.int .i64 x1, Value.slice a n c] 31)).cell? ⟨w.heap.size + 1, 1, none⟩ = some (.int .i64 p.denied) := by simp [go_sem]
  have p2 : (((w.alloc (Obj.cells #[Value.slice a0 n0 c0, Value.slice a1 n1 c1] 37)).alloc (Obj.cells #[Value.int .i64 p.len, Value.int .i64 p.denied, Value.int .i64 p.closed, Value.int .i64 p.life] 39)).alloc (Obj.cells #[Value.int .i64 x0, Value.int .i64 x1, Value.slice a n c] 31)).cell? ⟨w.heap.size + 1, 2, none⟩ = some (.int .i64 p.closed) := by simp [go_sem]
  have p3 : (((w.alloc (Obj.cells #[Value.slice a0 n0 c0, Value.slice a1 n1 c1] 37)).alloc (Obj.cells #[Value.int .i64 p.len, Value.int .i64 p.denied, Value.int .i64 p.closed, Value.int .i64 p.life] 39)).alloc (Obj.cells #[Value.int .i64 x0, Value.int .i64 x1, Value.slice a n c] 31)).cell? ⟨w.heap.size + 1, 3, none⟩ = some (.int .i64 p.life) := by simp [go_sem]
  have j0 : (((w.alloc (Obj.cells #[Value.slice a0 n0 c0, Value.slice a1 n1 c1] 37)).alloc (Obj.cells #[Value.int .i64 p.len, Value.int .i64 p.denied, Value.int .i64 p.closed, Value.int .i64 p.life] 39)).alloc (Obj.cells #[Value.int .i64 x0, Value.int .i64 x1, Value.slice a n c] 31)).cell? ⟨w.heap.size + 1 + 1, 0, none⟩ = some (.int .i64 x0) := by simp [go_sem]
  have j1 : (((w.alloc (Obj.cells #[Value.slice a0 n0 c0, Value.slice a1 n1 c1] 37)).alloc (Obj.cells #[Value.int .i64 p.len, Value.int .i64 p.denied, Value.int .i64 p.closed, Value.int .i64 p.life] 39)).alloc (Obj.cells #[Value.int .i64 x0, Value.int .i64 x1, Value.slice a n c] 31)).cell? ⟨w.heap.size + 1 + 1, 1, none⟩ = some (.int .i64 x1) := by simp [go_sem]
  have j2 : (((w.alloc (Obj.cells #[Value.slice a0 n0 c0, Value.slice a1 n1 c1] 37)).alloc (Obj.cells #[Value.int .i64 p.len, Value.int .i64 p.denied, Value.int .i64 p.closed, Value.int .i64 p.life] 39)).alloc (Obj.cells #[Value.int .i64 x0, Value.int .i64 x1, Value.slice a n c] 31)).cell? ⟨w.heap.size + 1 + 1, 2, none⟩ = some (.slice a n c) := by simp [go_sem]
  have hs0 : (((w.alloc (Obj.cells #[Value.slice a0 n0 c0, Value.slice a1 n1 c1] 37)).alloc (Obj.cells #[Value.int .i64 p.len, Value.int .i64 p.denied, Value.int .i64 p.closed, Value.int .i64 p.life] 39)).alloc (Obj.cells #[Value.int .i64 x0, Value.int .i64 x1, Value.slice a n c] 31)).heap.size = w.heap.size + 1 + 1 + 1 := by simp only [World.size_alloc]
  have HZ := Lib.hid hz
  have HR := Lib.hid hr
  have HI := Lib.hid hi1
  have HT := Lib.hid ht
  have HX := Lib.hid hb
  have HF := Lib.hid hf
  clear hz hr hi1 ht hb hf
  obtain ⟨i0, hi, hz0, hz1, hz2⟩ := info_parts infoI64
  have hby : i0.bytes ≤ 8 := by rw [hz2]; decide
  go_enter Tryz.func24, Tryz.ntmps24
  go_wp2_with fail
  generalize (((w.alloc (Obj.cells #[Value.slice a0 n0 c0, Value.slice a1 n1 c1] 37)).alloc (Obj.cells #[Value.int .i64 p.len, Value.int .i64 p.denied, Value.int .i64 p.closed, Value.int .i64 p.life] 39)).alloc (Obj.cells #[Value.int .i64 x0, Value.int .i64 x1, Value.slice a n c] 31)) = wb at *
  have hown0 : (wb.alloc (.cells #[] 3)).ownsRow wb.heap.size 3 1 (.slice (some ⟨wb.heap.size, 0, none⟩) 0 0) 0 (([] : List Int).map (.int .i64)) := own_lit wb 3 [] (by simp)
  rw [hs0] at hown0
  go_loopw [11, 12] (fun v ix wr => ∃ k : Nat, k ≤ 6 ∧ ix = .int .i64 ((k : Int) + 1) ∧ wr.ownsRow (w.heap.size + 1 + 1 + 1) 3 1 v (pickI (egrF n0 zA zl n1 p x0 x1 hs n r i) k).length ((pickI (egrF n0 zA zl n1 p x0 x1 hs n r i) k).map (.int .i64)) ∧ Mk0 wb wr) (fun _ ix _ => 7 - (intOf ix).toNat)
  case atStart => exact ⟨0, Nat.zero_le _, rfl, hown0, Mk.alloc wb _⟩
  case round =>
    clear hown0
    obtain ⟨k, hk, rfl, hown, hM⟩ := hrel
    have k0' := hM.cellAt k0
    have k1' := hM.cellAt k1
    have p0' := hM.cellAt p0
    have p1' := hM.cellAt p1
    have p2' := hM.cellAt p2
    have p3' := hM.cellAt p3
    have j0' := hM.cellAt j0
    have j1' := hM.cellAt j1
    have j2' := hM.cellAt j2
    have hM' := M0.trans hM
    have hul := pickI_le (egrF n0 zA zl n1 p x0 x1 hs n r i) k
    obtain ⟨L, hL⟩ : ∃ L, Hid (L = pickI (egrF n0 zA zl n1 p x0 x1 hs n r i) k) := ⟨_, Lib.hid rfl⟩
    rw [← hL.out] at hown hul
    have i0k : (0 : Int) ≤ (k : Int) := by omega
    by_cases hlt : k < 6
    · have i2 : ((k : Int) + 1) ≤ 6 := by omega
      have HK := Lib.hid (show (Lit.int .i64 ((k : Int) + 1)).wf = true from by simp only [Lit.wf, Bool.and_eq_true, decide_eq_true_eq]; rw [show IntKind.i64.min = -9223372036854775808 by decide, show IntKind.i64.max = 9223372036854775807 by decide]; omega)
      obtain ⟨bb, hbb⟩ : ∃ bb, Hid (bb = exB n0 zA zl n1 p x0 x1 hs n r i ((k : Int) + 1)) := ⟨_, Lib.hid rfl⟩
      obtain ⟨R1, hR1⟩ : ∃ R, Hid (R = (remote zl r ((k : Int) + 1) n1).1) := ⟨_, Lib.hid rfl⟩
      obtain ⟨R2, hR2⟩ : ∃ R, Hid (R = (remote zl r ((k : Int) + 1) n1).2) := ⟨_, Lib.hid rfl⟩
      obtain ⟨GR, hGR⟩ : ∃ R, Hid (R = growR zA p x0 x1 hs n r i ((k : Int) + 1) bb) := ⟨_, Lib.hid rfl⟩
      have KO := specExtend a0 a1 n0 c0 n1 c1 B zA zl p x0 x1 a n c B' hs r i ((k : Int) + 1) wr (hA.mk hM' hB (.inr (Nat.le_refl _))) (hl.mk hM' hB (.inr (Nat.le_refl _))) (Nat.le_trans hB (hM').size) hn0 hn1 (h.mk hM' hB' (.inr (Nat.le_refl _))) (Nat.le_trans hB' (hM').size) hn hc0 hnc HZ.out HT.out HX.out HR.out HI.out HK.out HF.out
      rw [← hbb.out, ← hGR.out] at KO
      go_wp2_with fail
      refine KO.mono ?_
      rintro e w2 ⟨A, N, C, rfl, hc, hO, m2⟩
      clear hO hc KO hGR
      replace m2 := m2.new (Obj.cells #[Value.int .i64 x0, Value.int .i64 x1, Value.slice A N C] 31)
      replace k0' := m2.cellAt k0'
      replace k1' := m2.cellAt k1'
      replace p0' := m2.cellAt p0'
      replace p1' := m2.cellAt p1'
      replace p2' := m2.cellAt p2'
      replace p3' := m2.cellAt p3'
      replace j0' := m2.cellAt j0'
      replace j1' := m2.cellAt j1'
      replace j2' := m2.cellAt j2'
      have KR := specRemote a0 a1 n0 c0 n1 c1 B zl r ((k : Int) + 1) (w2.alloc (Obj.cells #[Value.int .i64 x0, Value.int .i64 x1, Value.slice A N C] 31)) (hl.mk (hM'.trans m2) hB (.inr (Nat.le_refl _))) (Nat.le_trans hB ((hM'.trans m2)).size) hn1
      rw [← hR1.out, ← hR2.out] at KR
      go_wp2_with fail
      generalize (w2.alloc (Obj.cells #[Value.int .i64 x0, Value.int .i64 x1, Value.slice A N C] 31)) = w2' at *
      refine KR.mono ?_
      rintro e w3 ⟨rfl, m3⟩
      clear KR
      replace m3 := m2.trans m3
      replace k0' := m3.cellAt (hM.cellAt k0)
      replace k1' := m3.cellAt (hM.cellAt k1)
      replace p0' := m3.cellAt (hM.cellAt p0)
      replace p1' := m3.cellAt (hM.cellAt p1)
      replace p2' := m3.cellAt (hM.cellAt p2)
      replace p3' := m3.cellAt (hM.cellAt p3)
      replace j0' := m3.cellAt (hM.cellAt j0)
      replace j1' := m3.cellAt (hM.cellAt j1)
      replace j2' := m3.cellAt (hM.cellAt j2)
      cases bb
      · have HE := Lib.hid (show pickI (egrF n0 zA zl n1 p x0 x1 hs n r i) (k + 1) = L by rw [pickI, if_neg (by unfold egrF; rw [← hbb.out]; simp), hL.out])
        go_wp2_with fail
        go_roundw
        case rel => exact ⟨k + 1, by omega, by go_num, by rw [HE.out]; exact own_keptR hown m3, hM.trans m3⟩
        case measure => simp [intOf]; omega
      · cases eR : (R1 == r)
        · have eN : (R1 != r) = true := by unfold bne; rw [eR]; rfl
          have KA := specASes x0 x1 a n c B' hs w3 (h.mk (hM'.trans m3) hB' (.inr (Nat.le_refl _))) (Nat.le_trans hB' (hM'.trans m3).size) hn
          go_wp2_with fail
          refine KA.mono ?_
          rintro e w4 ⟨A4, N4, C4, rfl, hA4, hO4, b4⟩
          clear KA
          have m4 := m3.trans (Mk.of_below b4)
          obtain rfl : n = N4 := (colN_len _ _ _).symm.trans hO4.1
          have hH := hO4.has
          obtain ⟨HB, hHB⟩ : ∃ HB, Hid (HB = inUp (fun j => (colN THop.nd hs n).getD j 0) R1 n) := ⟨_, Lib.hid rfl⟩
          have KH := specHas9 R1 A4 n C4 _ (colN THop.nd hs n) w4 hH (by omega)
          rw [← hHB.out] at KH
          go_wp2_with fail
          refine KH.mono ?_
          rintro e w5 ⟨rfl, rfl⟩
          clear KH hH hO4 b4
          cases HB
          · have HE := Lib.hid (show pickI (egrF n0 zA zl n1 p x0 x1 hs n r i) (k + 1) = L ++ [((k : Int) + 1)] by rw [pickI, if_pos (by unfold egrF; rw [← hbb.out, ← hR1.out, eR, ← hHB.out]; rfl), hL.out])
            have mF : Mk0 wr w4 := m4
            have hN := has_new .i64 w4 3 ((k : Int) + 1)
            have MA := Mk.alloc w4 (.cells #[.int .i64 ((k : Int) + 1)] 3)
            have ho' := own_keptR (own_keptR hown mF) MA
            have hsz := ((hM.trans mF).trans MA).size
            rw [hs0] at hsz
            go_wp2_with (at_builtin; refine wpList_app rfl (.tmp 52) (.tmp 54) 55 rfl _ 3 i0 Tryz.underlying55 hi hz0 hz1 hby _ L L.length rfl ho' _ 1 1 [((k : Int) + 1)] rfl (fun h => by cases h) hN (by omega) hsz ?_; intro v3 w3 ho3 hg3 hat3)
            have M3 := (hM.trans (mF.trans MA)).appR hg3 (fun g hg => by have := (ho'.lt g hg).1; omega)
            clear hat3
            go_wp2_with fail
            go_roundw
            case rel => exact ⟨k + 1, by omega, by go_num, by rw [HE.out, List.length_append]; exact ho3, M3⟩
            case measure => simp [intOf]; omega
          · have HE := Lib.hid (show pickI (egrF n0 zA zl n1 p x0 x1 hs n r i) (k + 1) = L by rw [pickI, if_neg (by unfold egrF; rw [← hbb.out, ← hR1.out, eR, ← hHB.out]; simp), hL.out])
            go_wp2_with fail
            go_roundw
            case rel => exact ⟨k + 1, by omega, by go_num, by rw [HE.out]; exact own_keptR hown m4, hM.trans m4⟩
            case measure => simp [intOf]; omega
        · have eN : (R1 != r) = false := by unfold bne; rw [eR]; rfl
          have HE := Lib.hid (show pickI (egrF n0 zA zl n1 p x0 x1 hs n r i) (k + 1) = L by rw [pickI, if_neg (by unfold egrF; rw [← hbb.out, ← hR1.out, eR]; simp), hL.out])
          go_wp2_with fail
          go_roundw
          case rel => exact ⟨k + 1, by omega, by go_num, by rw [HE.out]; exact own_keptR hown m3, hM.trans m3⟩
          case measure => simp [intOf]; omega
    · obtain rfl : k = 6 := by omega
      obtain ⟨A3, C3, rfl, hA3, hN3⟩ := ownsRow_sliceR2 hown
      have hO3 := ownsRow_own hown
      go_wp2_with fail
      go_ret
      exact ⟨A3, _, C3, rfl, hA3, by rw [← hL.out]; exact hO3.low (by omega), hM'.below0⟩

set_option maxRecDepth 100000 in
set_option maxHeartbeats 16000000 in
theorem implEgr (a0 a1 : Option Addr) (n0 c0 n1 c1 B : Nat) (zA : List TAS) (zl : List TLink) (p : TPolicy) (x0 x1 : Int) (a : Option Addr) (n c B' : Nat) (hs : List THop) (r i : Int) (w : World) (hA : HasAS w B a0 n0 zA) (hl : HasLink w B a1 n1 zl) (hB : B ≤ w.heap.size) (hn0 : n0 ≤ 1048576) (hn1 : n1 ≤ 1048576) (h : HasHop w B' a n hs) (hB' : B' ≤ w.heap.size) (hn : n ≤ 1048576) (hc0 : a = none → c = 0) (hnc : n ≤ c) (hz : ∀ y ∈ zA, TAS.fits y) (ht : (Lit.int .i64 x0).wf = true) (hb : (Lit.int .i64 x1).wf = true) (hr : (Lit.int .i64 r).wf = true) (hi1 : (Lit.int .i64 i).wf = true) (hf : ∀ y ∈ hs, THop.fits y) (hg : w.cell? ⟨0, 0, none⟩ = some (.iface 161 (.agg #[.pointer (some ⟨1, 139, none⟩)]))) :
    Calls Tryz.prog 25 #[.agg #[.slice a0 n0 c0, .slice a1 n1 c1], .agg #[.int .i64 p.len, .int .i64 p.denied, .int .i64 p.closed, .int .i64 p.life], .agg #[.int .i64 x0, .int .i64 x1, .slice a n c], .int .i64 r, .int .i64 i] w (OutR .i64 w (pickI (egrF n0 zA zl n1 p x0 x1 hs n r i) 6)) := by
  have M0 : Mk0 w (((w.alloc (Obj.cells #[Value.slice a0 n0 c0, Value.slice a1 n1 c1] 37)).alloc (Obj.cells #[Value.int .i64 p.len, Value.int .i64 p.denied, Value.int .i64 p.closed, Value.int .i64 p.life] 39)).alloc (Obj.cells #[Value.int .i64 x0, Value.int .i64 x1, Value.slice a n c] 31)) := (((Mk.alloc w (Obj.cells #[Value.slice a0 n0 c0, Value.slice a1 n1 c1] 37)).new (Obj.cells #[Value.int .i64 p.len, Value.int .i64 p.denied, Value.int .i64 p.closed, Value.int .i64 p.life] 39)).new (Obj.cells #[Value.int .i64 x0, Value.int .i64 x1, Value.slice a n c] 31))
  have k0 : (((w.alloc (Obj.cells #[Value.slice a0 n0 c0, Value.slice a1 n1 c1] 37)).alloc (Obj.cells #[Value.int .i64 p.len, Value.int .i64 p.denied, Value.int .i64 p.closed, Value.int .i64 p.life] 39)).alloc (Obj.cells #[Value.int .i64 x0, Value.int .i64 x1, Value.slice a n c] 31)).cell? ⟨w.heap.size, 0, none⟩ = some (.slice a0 n0 c0) := by simp [go_sem]
  have k1 : (((w.alloc (Obj.cells #[Value.slice a0 n0 c0, Value.slice a1 n1 c1] 37)).alloc (Obj.cells #[Value.int .i64 p.len, Value.int .i64 p.denied, Value.int .i64 p.closed, Value.int .i64 p.life] 39)).alloc (Obj.cells #[Value.int .i64 x0, Value.int .i64 x1, Value.slice a n c] 31)).cell? ⟨w.heap.size, 1, none⟩ = some (.slice a1 n1 c1) := by simp [go_sem]
  have p0 : (((w.alloc (Obj.cells #[Value.slice a0 n0 c0, Value.slice a1 n1 c1] 37)).alloc (Obj.cells #[Value.int .i64 p.len, Value.int .i64 p.denied, Value.int .i64 p.closed, Value.int .i64 p.life] 39)).alloc (Obj.cells #[Value.int .i64 x0, Value.int .i64 x1, Value.slice a n c] 31)).cell? ⟨w.heap.size + 1, 0, none⟩ = some (.int .i64 p.len) := by simp [go_sem]
  have p1 : (((w.alloc (Obj.cells #[Value.slice a0 n0 c0, Value.slice a1 n1 c1] 37)).alloc (Obj.cells #[Value.int .i64 p.len, Value.int .i64 p.denied, Value.int .i64 p.closed, Value.int .i64 p.life] 39)).alloc (Obj.cells #[Value.int .i64 x0, Value.int .i64 x1, Value.slice a n c] 31)).cell? ⟨w.heap.size + 1, 1, none⟩ = some (.int .i64 p.denied) := by simp [go_sem]
  have p2 : (((w.alloc (Obj.cells #[Value.slice a0 n0 c0, Value.slice a1 n1 c1] 37)).alloc (Obj.cells #[Value.int .i64 p.len, Value.int .i64 p.denied, Value.int .i64 p.closed, Value.int .i64 p.life] 39)).alloc (Obj.cells #[Value.int .i64 x0, Value.int .i64 x1, Value.slice a n c] 31)).cell? ⟨w.heap.size + 1, 2, none⟩ = some (.int .i64 p.closed) := by simp [go_sem]
  have p3 : (((w.alloc (Obj.cells #[Value.slice a0 n0 c0, Value.slice a1 n1 c1] 37)).alloc (Obj.cells #[Value.int .i64 p.len, Value.int .i64 p.denied, Value.int .i64 p.closed, Value.int .i64 p.life] 39)).alloc (Obj.cells #[Value.int .i64 x0, Value.int .i64 x1, Value.slice a n c] 31)).cell? ⟨w.heap.size + 1, 3, none⟩ = some (.int .i64 p.life) := by simp [go_sem]
  have j0 : (((w.alloc (Obj.cells #[Value.slice a0 n0 c0, Value.slice a1 n1 c1] 37)).alloc (Obj.cells #[Value.int .i64 p.len, Value.int .i64 p.denied, Value.int .i64 p.closed, Value.int .i64 p.life] 39)).alloc (Obj.cells #[Value.int .i64 x0, Value.int .i64 x1, Value.slice a n c] 31)).cell? ⟨w.heap.size + 1 + 1, 0, none⟩ = some (.int .i64 x0) := by simp [go_sem]
  have j1 : (((w.alloc (Obj.cells #[Value.slice a0 n0 c0, Value.slice a1 n1 c1] 37)).alloc (Obj.cells #[Value.int .i64 p.len, Value.int .i64 p.denied, Value.int .i64 p.closed, Value.int .i64 p.life] 39)).alloc (Obj.cells #[Value.int .i64 x0, Value.int .i64 x1, Value.slice a n c] 31)).cell? ⟨w.heap.size + 1 + 1, 1, none⟩ = some (.int .i64 x1) := by simp [go_sem]
  have j2 : (((w.alloc (Obj.cells #[Value.slice a0 n0 c0, Value.slice a1 n1 c1] 37)).alloc (Obj.cells #[Value.int .i64 p.len, Value.int .i64 p.denied, Value.int .i64 p.closed, Value.int .i64 p.life] 39)).alloc (Obj.cells #[Value.int .i64 x0, Value.int .i64 x1, Value.slice a n c] 31)).cell? ⟨w.heap.size + 1 + 1, 2, none⟩ = some (.slice a n c) := by simp [go_sem]
  have hs0 : (((w.alloc (Obj.cells #[Value.slice a0 n0 c0, Value.slice a1 n1 c1] 37)).alloc (Obj.cells #[Value.int .i64 p.len, Value.int .i64 p.denied, Value.int .i64 p.closed, Value.int .i64 p.life] 39)).alloc (Obj.cells #[Value.int .i64 x0, Value.int .i64 x1, Value.slice a n c] 31)).heap.size = w.heap.size + 1 + 1 + 1 := by simp only [World.size_alloc]
  have HZ := Lib.hid hz
  have HR := Lib.hid hr
  have HI := Lib.hid hi1
  have HT := Lib.hid ht
  have HX := Lib.hid hb
  have HF := Lib.hid hf
  clear hz hr hi1 ht hb hf
  have HG := Lib.hid (M0.cellAt hg)
  clear hg
  obtain ⟨i0, hi, hz0, hz1, hz2⟩ := info_parts infoI64
  have hby : i0.bytes ≤ 8 := by rw [hz2]; decide
  go_enter Tryz.func25, Tryz.ntmps25
  go_wp2_with fail
  generalize (((w.alloc (Obj.cells #[Value.slice a0 n0 c0, Value.slice a1 n1 c1] 37)).alloc (Obj.cells #[Value.int .i64 p.len, Value.int .i64 p.denied, Value.int .i64 p.closed, Value.int .i64 p.life] 39)).alloc (Obj.cells #[Value.int .i64 x0, Value.int .i64 x1, Value.slice a n c] 31)) = wb at *
  have hown0 : (wb.alloc (.cells #[] 3)).ownsRow wb.heap.size 3 1 (.slice (some ⟨wb.heap.size, 0, none⟩) 0 0) 0 (([] : List Int).map (.int .i64)) := own_lit wb 3 [] (by simp)
  rw [hs0] at hown0
  go_loopw [11, 12] (fun v ix wr => ∃ k : Nat, k ≤ 6 ∧ ix = .int .i64 ((k : Int) + 1) ∧ wr.ownsRow (w.heap.size + 1 + 1 + 1) 3 1 v (pickI (egrF n0 zA zl n1 p x0 x1 hs n r i) k).length ((pickI (egrF n0 zA zl n1 p x0 x1 hs n r i) k).map (.int .i64)) ∧ Mk0 wb wr) (fun _ ix _ => 7 - (intOf ix).toNat)
  case atStart => exact ⟨0, Nat.zero_le _, rfl, hown0, Mk.alloc wb _⟩
  case round =>
    clear hown0
    obtain ⟨k, hk, rfl, hown, hM⟩ := hrel
    have k0' := hM.cellAt k0
    have k1' := hM.cellAt k1
    have p0' := hM.cellAt p0
    have p1' := hM.cellAt p1
    have p2' := hM.cellAt p2
    have p3' := hM.cellAt p3
    have j0' := hM.cellAt j0
    have j1' := hM.cellAt j1
    have j2' := hM.cellAt j2
    have hM' := M0.trans hM
    have hul := pickI_le (egrF n0 zA zl n1 p x0 x1 hs n r i) k
    obtain ⟨L, hL⟩ : ∃ L, Hid (L = pickI (egrF n0 zA zl n1 p x0 x1 hs n r i) k) := ⟨_, Lib.hid rfl⟩
    rw [← hL.out] at hown hul
    have i0k : (0 : Int) ≤ (k : Int) := by omega
    by_cases hlt : k < 6
    · have i2 : ((k : Int) + 1) ≤ 6 := by omega
      have HK := Lib.hid (show (Lit.int .i64 ((k : Int) + 1)).wf = true from by simp only [Lit.wf, Bool.and_eq_true, decide_eq_true_eq]; rw [show IntKind.i64.min = -9223372036854775808 by decide, show IntKind.i64.max = 9223372036854775807 by decide]; omega)
      obtain ⟨bb, hbb⟩ : ∃ bb, Hid (bb = exB n0 zA zl n1 p x0 x1 hs n r i ((k : Int) + 1)) := ⟨_, Lib.hid rfl⟩
      obtain ⟨R1, hR1⟩ : ∃ R, Hid (R = (remote zl r ((k : Int) + 1) n1).1) := ⟨_, Lib.hid rfl⟩
      obtain ⟨R2, hR2⟩ : ∃ R, Hid (R = (remote zl r ((k : Int) + 1) n1).2) := ⟨_, Lib.hid rfl⟩
      obtain ⟨GR, hGR⟩ : ∃ R, Hid (R = growR zA p x0 x1 hs n r i ((k : Int) + 1) bb) := ⟨_, Lib.hid rfl⟩
      have KR := implRemote a0 a1 n0 c0 n1 c1 B zl r ((k : Int) + 1) wr (hl.mk hM' hB (.inr (Nat.le_refl _))) (Nat.le_trans hB (hM').size) hn1
      rw [← hR1.out, ← hR2.out] at KR
      go_wp2_with fail
      refine KR.mono ?_
      rintro e w2 ⟨rfl, m2⟩
      clear KR
      replace k0' := m2.cellAt k0'
      replace k1' := m2.cellAt k1'
      replace p0' := m2.cellAt p0'
      replace p1' := m2.cellAt p1'
      replace p2' := m2.cellAt p2'
      replace p3' := m2.cellAt p3'
      replace j0' := m2.cellAt j0'
      replace j1' := m2.cellAt j1'
      replace j2' := m2.cellAt j2'
      have KO := implExtend a0 a1 n0 c0 n1 c1 B zA zl p x0 x1 a n c B' hs r i ((k : Int) + 1) w2 (hA.mk (hM'.trans m2) hB (.inr (Nat.le_refl _))) (hl.mk (hM'.trans m2) hB (.inr (Nat.le_refl _))) (Nat.le_trans hB ((hM'.trans m2)).size) hn0 hn1 (h.mk (hM'.trans m2) hB' (.inr (Nat.le_refl _))) (Nat.le_trans hB' ((hM'.trans m2)).size) hn hc0 hnc HZ.out HT.out HX.out HR.out HI.out HK.out HF.out ((hM.trans m2).cellAt HG.out)
      rw [← hbb.out, ← hGR.out] at KO
      go_wp2_with fail
      refine KO.mono ?_
      rintro e w3 ⟨A, N, C, rfl, hc, hO, m3⟩
      clear hO hc KO hGR
      replace m3 := (m2.trans m3).new (Obj.cells #[Value.int .i64 x0, Value.int .i64 x1, Value.slice A N C] 31)
      replace k0' := m3.cellAt (hM.cellAt k0)
      replace k1' := m3.cellAt (hM.cellAt k1)
      replace p0' := m3.cellAt (hM.cellAt p0)
      replace p1' := m3.cellAt (hM.cellAt p1)
      replace p2' := m3.cellAt (hM.cellAt p2)
      replace p3' := m3.cellAt (hM.cellAt p3)
      replace j0' := m3.cellAt (hM.cellAt j0)
      replace j1' := m3.cellAt (hM.cellAt j1)
      replace j2' := m3.cellAt (hM.cellAt j2)
      cases bb
      · have HE := Lib.hid (show pickI (egrF n0 zA zl n1 p x0 x1 hs n r i) (k + 1) = L by rw [pickI, if_neg (by unfold egrF; rw [← hbb.out]; simp), hL.out])
        go_wp2_with fail
        go_roundw
        case rel => exact ⟨k + 1, by omega, by go_num, by rw [HE.out]; exact own_keptR hown m3, hM.trans m3⟩
        case measure => simp [intOf]; omega
      · cases eR : (R1 == r)
        · have eN : (R1 != r) = true := by unfold bne; rw [eR]; rfl
          have KA := implSegASes x0 x1 a n c B' hs (w3.alloc (Obj.cells #[Value.int .i64 x0, Value.int .i64 x1, Value.slice A N C] 31)) (h.mk (hM'.trans m3) hB' (.inr (Nat.le_refl _))) (Nat.le_trans hB' (hM'.trans m3).size) hn
          go_wp2_with fail
          refine KA.mono ?_
          rintro e w4 ⟨A4, N4, C4, rfl, hA4, hO4, b4⟩
          clear KA
          have m4 := m3.trans (Mk.of_below b4)
          obtain rfl : n = N4 := (colN_len _ _ _).symm.trans hO4.1
          have hH := hO4.has
          obtain ⟨HB, hHB⟩ : ∃ HB, Hid (HB = inUp (fun j => (colN THop.nd hs n).getD j 0) R1 n) := ⟨_, Lib.hid rfl⟩
          have KH := contI R1 A4 n C4 _ (colN THop.nd hs n) w4 hH (by omega)
          rw [show nthI (colN THop.nd hs n) = (fun j => (colN THop.nd hs n).getD j 0) from rfl, ← hHB.out] at KH
          go_wp2_with fail
          refine KH.mono ?_
          rintro e w5 ⟨rfl, rfl⟩
          clear KH hH hO4 b4
          cases HB
          · have HE := Lib.hid (show pickI (egrF n0 zA zl n1 p x0 x1 hs n r i) (k + 1) = L ++ [((k : Int) + 1)] by rw [pickI, if_pos (by unfold egrF; rw [← hbb.out, ← hR1.out, eR, ← hHB.out]; rfl), hL.out])
            have mF : Mk0 wr w4 := m4
            have hN := has_new .i64 w4 3 ((k : Int) + 1)
            have MA := Mk.alloc w4 (.cells #[.int .i64 ((k : Int) + 1)] 3)
            have ho' := own_keptR (own_keptR hown mF) MA
            have hsz := ((hM.trans mF).trans MA).size
            rw [hs0] at hsz
            go_wp2_with (at_builtin; refine wpList_app rfl (.tmp 52) (.tmp 54) 55 rfl _ 3 i0 Tryz.underlying55 hi hz0 hz1 hby _ L L.length rfl ho' _ 1 1 [((k : Int) + 1)] rfl (fun h => by cases h) hN (by omega) hsz ?_; intro v3 w3 ho3 hg3 hat3)
            have M3 := (hM.trans (mF.trans MA)).appR hg3 (fun g hg => by have := (ho'.lt g hg).1; omega)
            clear hat3
            go_wp2_with fail
            go_roundw
            case rel => exact ⟨k + 1, by omega, by go_num, by rw [HE.out, List.length_append]; exact ho3, M3⟩
            case measure => simp [intOf]; omega
          · have HE := Lib.hid (show pickI (egrF n0 zA zl n1 p x0 x1 hs n r i) (k + 1) = L by rw [pickI, if_neg (by unfold egrF; rw [← hbb.out, ← hR1.out, eR, ← hHB.out]; simp), hL.out])
            go_wp2_with fail
            go_roundw
            case rel => exact ⟨k + 1, by omega, by go_num, by rw [HE.out]; exact own_keptR hown m4, hM.trans m4⟩
            case measure => simp [intOf]; omega
        · have eN : (R1 != r) = false := by unfold bne; rw [eR]; rfl
          have HE := Lib.hid (show pickI (egrF n0 zA zl n1 p x0 x1 hs n r i) (k + 1) = L by rw [pickI, if_neg (by unfold egrF; rw [← hbb.out, ← hR1.out, eR]; simp), hL.out])
          go_wp2_with fail
          go_roundw
          case rel => exact ⟨k + 1, by omega, by go_num, by rw [HE.out]; exact own_keptR hown m3, hM.trans m3⟩
          case measure => simp [intOf]; omega
    · obtain rfl : k = 6 := by omega
      obtain ⟨A3, C3, rfl, hA3, hN3⟩ := ownsRow_sliceR2 hown
      have hO3 := ownsRow_own hown
      go_wp2_with fail
      go_ret
      exact ⟨A3, _, C3, rfl, hA3, by rw [← hL.out]; exact hO3.low (by omega), hM'.below0⟩

end Go.Proofs.YtbbcpdgdihdmiaaGreatDoor
