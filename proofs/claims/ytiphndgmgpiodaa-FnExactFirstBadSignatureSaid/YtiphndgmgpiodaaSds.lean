
/- SignedDataSize of both sides. -/
import Derived.Test.YtiphndgmgpiodaaSData
import Derived.Test.YtiphndgmgpiodaaTurn
import Derived.Test.YtiphndgmgpiodaaRet
import Derived.Laws.EntriesVeiled
namespace Go.Proofs.Ytiphndgmgpiodaa
open Go.ChangeShapes Go.WideShapes Go.ChangeAt Go.RowKit
set_option linter.unusedVariables false
/-- How many numbers are signed at hop k. -/
def dsz (k : Nat) : Nat := 3 + 5 * (k + 1)
def sdSum : Nat → Int
  | 0 => 0
  | k + 1 => sdSum k + (dsz k : Int)
theorem dsz_le {k n : Nat} (h : k < n) (hn : n ≤ 1048576) : ((dsz k : Nat) : Int) ≤ 5242883 := by unfold dsz; omega
theorem sdSum_bd : ∀ k, k ≤ 1048576 → 0 ≤ sdSum k ∧ sdSum k ≤ 5242883 * (k : Int)
  | 0, _ => by simp [sdSum]
  | k + 1, h => by
    have h1 := sdSum_bd k (by omega)
    have h2 := dsz_le (Nat.lt_succ_self k) h
    rw [sdSum]
    omega
theorem sdata_dsz {x0 x1 : Int} {hs : List THop} {n k : Nat} (h : k < n) : (sdataV x0 x1 hs n ((k : Int) + 1)).length = dsz k := by
  rw [show (k : Int) + 1 = ((k + 1 : Nat) : Int) by omega, sdata_in (by omega), sdL_len]
  rfl
set_option maxRecDepth 100000 in
set_option maxHeartbeats 4000000 in
theorem specSds (x0 x1 : Int) (a a3 : Option Addr) (n c n3 c3 B : Nat) (hs : List THop) (w : World) (h : HasHop w B a n hs) (hB : B ≤ w.heap.size) (hn : n ≤ 1048576) :
    Calls Try.prog 34 #[.agg #[.int .i64 x0, .int .i64 x1, .slice a n c, .slice a3 n3 c3]] w fun e w' => e = .returned (.int .i64 (sdSum n)) ∧ Mk0 w w' := by
  have M0 := Mk.alloc w (Obj.cells #[Value.int .i64 x0, Value.int .i64 x1, Value.slice a n c, Value.slice a3 n3 c3] 58)
  have u0 : (w.alloc (Obj.cells #[Value.int .i64 x0, Value.int .i64 x1, Value.slice a n c, Value.slice a3 n3 c3] 58)).cell? ⟨w.heap.size, 0, none⟩ = some (.int .i64 x0) := by simp [go_sem]
  have u1 : (w.alloc (Obj.cells #[Value.int .i64 x0, Value.int .i64 x1, Value.slice a n c, Value.slice a3 n3 c3] 58)).cell? ⟨w.heap.size, 1, none⟩ = some (.int .i64 x1) := by simp [go_sem]
  have u2 : (w.alloc (Obj.cells #[Value.int .i64 x0, Value.int .i64 x1, Value.slice a n c, Value.slice a3 n3 c3] 58)).cell? ⟨w.heap.size, 2, none⟩ = some (.slice a n c) := by simp [go_sem]
  go_enter Try.func34, Try.ntmps34
  go_wp2_with fail
  generalize w.alloc (Obj.cells #[Value.int .i64 x0, Value.int .i64 x1, Value.slice a n c, Value.slice a3 n3 c3] 58) = W1 at *
  go_loopw [3, 4] (fun v i wr => ∃ k : Nat, k ≤ n ∧ i = .int .i64 k ∧ v = .int .i64 (sdSum k) ∧ Mk0 W1 wr) (fun _ i _ => n - (intOf i).toNat)
  case atStart => exact ⟨0, Nat.zero_le _, rfl, rfl, Mk.refl _ _ _⟩
  case round =>
    obtain ⟨k, hk, rfl, rfl, hM⟩ := hrel
    have v0 := hM.cellAt u0
    have v1 := hM.cellAt u1
    have v2 := hM.cellAt u2
    clear u0 u1 u2
    have hMW := M0.trans hM
    by_cases hlt : k < n
    · have hbd := sdSum_bd k (by omega)
      have hd := dsz_le hlt hn
      have HL := Lib.hid (sdata_dsz (x0 := x0) (x1 := x1) (hs := hs) hlt)
      obtain ⟨S, hS⟩ : ∃ S, Hid (S = sdSum k) := ⟨_, Lib.hid rfl⟩
      have HN := Lib.hid (show sdSum (k + 1) = S + (dsz k : Int) by rw [sdSum, ← hS.out])
      rw [← hS.out] at hbd ⊢
      obtain ⟨hb0, hb1⟩ := hbd
      have hb2 : S ≤ 6000000000000 := by omega
      clear hb1
      have i1 : (0 : Int) ≤ (k : Int) := by omega
      have i2 : (k : Int) < (n : Int) := by omega
      go_wp2_with fail
      refine (specSData x0 x1 a n c B hs ((k : Int) + 1) _ (h.mk hMW hB (.inr (Nat.le_refl _))) (Nat.le_trans hB hMW.size) hn).mono ?_
      rintro e w2 ⟨A, N, C, rfl, hA, hO, bb⟩
      obtain rfl : dsz k = N := HL.out.symm.trans hO.1
      have m2 := Mk.of_below bb
      have hd0 : (0 : Int) ≤ ((dsz k : Nat) : Int) := by omega
      go_wp2_with fail
      go_roundw
      case rel => exact ⟨k + 1, by omega, by go_num, by rw [HN.out], hM.trans m2⟩
      case measure => simp [intOf]; omega
    · obtain rfl : k = n := by omega
      go_wp2_with fail
      go_ret
      exact ⟨rfl, hMW⟩

set_option maxRecDepth 100000 in
set_option maxHeartbeats 4000000 in
theorem implSHData (x0 x1 : Int) (a : Option Addr) (n c B : Nat) (hs : List THop) (k : Nat) (w : World) (h : HasHop w B a n hs) (hB : B ≤ w.heap.size) (hn : n ≤ 1048576) (hc : n ≤ c) (hk : k < n) :
    Calls Try.prog 68 #[.agg #[.int .i64 x0, .int .i64 x1, .slice a n c, .int .i64 (k : Int)]] w (OutR .i64 w (sdataV x0 x1 hs n ((k : Int) + 1))) := by
  have M0 := Mk.alloc w (Obj.cells #[Value.int .i64 x0, Value.int .i64 x1, Value.slice a n c, Value.int .i64 (k : Int)] 112)
  have i1 : (0 : Int) ≤ (k : Int) := by omega
  have i2 : (k : Int) < 1048576 := by omega
  go_enter Try.func68, Try.ntmps68
  go_wp2_with fail
  refine (implSData x0 x1 a n c B hs ((k : Int) + 1) _ (h.mk M0 hB (.inr (Nat.le_refl _))) (Nat.le_trans hB M0.size) hn hc).mono ?_
  rintro e w2 ⟨A, N, C, rfl, hA, hO, bb⟩
  go_wp2_with fail
  go_ret
  exact ⟨A, N, C, rfl, hA, hO.low (by have := M0.size; omega), (M0.trans (Mk.of_below bb)).below0⟩

set_option maxRecDepth 100000 in
set_option maxHeartbeats 4000000 in
theorem implDSz (x0 x1 : Int) (a : Option Addr) (n c B : Nat) (hs : List THop) (k : Nat) (w : World) (h : HasHop w B a n hs) (hB : B ≤ w.heap.size) (hn : n ≤ 1048576) (hc : n ≤ c) (hk : k < n) :
    Calls Try.prog 113 #[.agg #[.int .i64 x0, .int .i64 x1, .slice a n c, .int .i64 (k : Int)], .agg #[.slice none 0 0, .slice none 0 0]] w fun e w' => e = .returned (.int .i64 ((dsz k : Nat) : Int)) ∧ Mk0 w w' := by
  have HL := Lib.hid (sdata_dsz (x0 := x0) (x1 := x1) (hs := hs) hk)
  have M0 := (Mk.alloc w (Obj.cells #[Value.int .i64 x0, Value.int .i64 x1, Value.slice a n c, Value.int .i64 (k : Int)] 112)).new (Obj.cells #[Value.slice none 0 0, Value.slice none 0 0] 55)
  go_enter Try.func113, Try.ntmps113
  go_wp2_with fail
  refine (implSHData x0 x1 a n c B hs k _ (h.mk M0 hB (.inr (Nat.le_refl _))) (Nat.le_trans hB M0.size) hn hc hk).mono ?_
  rintro e w2 ⟨A, N, C, rfl, hA, hO, bb⟩
  obtain rfl : dsz k = N := HL.out.symm.trans hO.1
  have m2 := Mk.of_below bb
  go_wp2_with fail
  go_ret
  exact ⟨rfl, M0.trans m2⟩

set_option maxRecDepth 100000 in
set_option maxHeartbeats 4000000 in
theorem implEach (x0 x1 : Int) (a : Option Addr) (n c B : Nat) (hs : List THop) (w : World) (h : HasHop w B a n hs) (hB : B ≤ w.heap.size) (hn : n ≤ 1048576) (hc : n ≤ c) :
    Calls Try.prog 77 #[.agg #[.slice none 0 0, .slice none 0 0], .agg #[.int .i64 x0, .int .i64 x1, .slice a n c], .int .i64 1] w fun e w' => ∃ g, e = .returned (.slice (some ⟨g, 0, none⟩) n n) ∧ (∀ j, j < n → w'.cell? ⟨g, j, none⟩ = some (.int .i64 ((dsz j : Nat) : Int))) ∧ Mk0 w w' := by
  obtain ⟨i0, hi, hz0, hz1, hz2⟩ := info_parts infoI64
  have hu := Try.underlying46
  have M0 := (Mk.alloc w (Obj.cells #[Value.slice none 0 0, Value.slice none 0 0] 55)).new (Obj.cells #[Value.int .i64 x0, Value.int .i64 x1, Value.slice a n c] 33)
  have t0 : ((w.alloc (Obj.cells #[Value.slice none 0 0, Value.slice none 0 0] 55)).alloc (Obj.cells #[Value.int .i64 x0, Value.int .i64 x1, Value.slice a n c] 33)).cell? ⟨w.heap.size, 0, none⟩ = some (.slice none 0 0) := by simp [go_sem]
  have t1 : ((w.alloc (Obj.cells #[Value.slice none 0 0, Value.slice none 0 0] 55)).alloc (Obj.cells #[Value.int .i64 x0, Value.int .i64 x1, Value.slice a n c] 33)).cell? ⟨w.heap.size, 1, none⟩ = some (.slice none 0 0) := by simp [go_sem]
  have u0 : ((w.alloc (Obj.cells #[Value.slice none 0 0, Value.slice none 0 0] 55)).alloc (Obj.cells #[Value.int .i64 x0, Value.int .i64 x1, Value.slice a n c] 33)).cell? ⟨w.heap.size + 1, 0, none⟩ = some (.int .i64 x0) := by simp [go_sem]
  have u1 : ((w.alloc (Obj.cells #[Value.slice none 0 0, Value.slice none 0 0] 55)).alloc (Obj.cells #[Value.int .i64 x0, Value.int .i64 x1, Value.slice a n c] 33)).cell? ⟨w.heap.size + 1, 1, none⟩ = some (.int .i64 x1) := by simp [go_sem]
  have u2 : ((w.alloc (Obj.cells #[Value.slice none 0 0, Value.slice none 0 0] 55)).alloc (Obj.cells #[Value.int .i64 x0, Value.int .i64 x1, Value.slice a n c] 33)).cell? ⟨w.heap.size + 1, 2, none⟩ = some (.slice a n c) := by simp [go_sem]
  have ix : ∀ w', (Instr.index 167 (Value.agg #[.func (.func 112) #[] #[], .func (.func 113) #[] #[]]) (Value.int .i64 1)).run Try.prog w' = .ok (.func (.func 113) #[] #[]) w' := fun _ => by kernel_rfl
  have hs2 : ((w.alloc (Obj.cells #[Value.slice none 0 0, Value.slice none 0 0] 55)).alloc (Obj.cells #[Value.int .i64 x0, Value.int .i64 x1, Value.slice a n c] 33)).heap.size = w.heap.size + 1 + 1 := by rw [World.size_alloc, World.size_alloc]
  have HC := Lib.hid hc
  go_enter Try.func77, Try.ntmps77
  go_wp2_with (with_reducible refine wpList_make_full ((w.alloc (Obj.cells #[Value.slice none 0 0, Value.slice none 0 0] 55)).alloc (Obj.cells #[Value.int .i64 x0, Value.int .i64 x1, Value.slice a n c] 33)) rfl (.tmp 15) (.tmp 15) 46 rfl ((w.alloc (Obj.cells #[Value.slice none 0 0, Value.slice none 0 0] 55)).alloc (Obj.cells #[Value.int .i64 x0, Value.int .i64 x1, Value.slice a n c] 33)).heap.size 3 i0 (.int .i64 0) 1 hu hi hz0 hz1 .i64 .i64 n n n rfl rfl rfl rfl (by rw [hz2]; omega) (by unfold maxLen; omega) (Nat.le_refl _) ?_; intro w1 hown hgr; have hF := (ownsRow_fillR hown (fun _ => undef)).toP (g := fun j => .int .i64 ((dsz j : Nat) : Int)); have m1 : Mk0 ((w.alloc (Obj.cells #[Value.slice none 0 0, Value.slice none 0 0] 55)).alloc (Obj.cells #[Value.int .i64 x0, Value.int .i64 x1, Value.slice a n c] 33)) w1 := Mk.of_below ((Below.refl _ _).grown hgr (Nat.le_refl _) (fun k hk => by cases hk)); have hg1 : w.heap.size + 1 + 1 < w1.heap.size := (by have := (hown.lt _ rfl).2; rw [hs2] at this; exact this))
  rw [hs2, Nat.mul_one] at hF
  have M1 := M0.trans m1
  replace t0 := m1.cellAt t0
  replace t1 := m1.cellAt t1
  replace u0 := m1.cellAt u0
  replace u1 := m1.cellAt u1
  replace u2 := m1.cellAt u2
  clear hown hgr hu m1
  go_loopw [9, 19] (fun v i wr => ∃ k : Nat, k ≤ n ∧ i = .int .i64 k ∧ FillP wr (w.heap.size + 1 + 1) n (fun j => j < k) (fun j => .int .i64 ((dsz j : Nat) : Int)) ∧ Mk (w.heap.size + 1 + 1) ((w.heap.size + 1 + 1) + 1) w1 wr ∧ Mk0 w wr ∧ (w.heap.size + 1 + 1) < wr.heap.size) (fun _ i _ => n - (intOf i).toNat)
  case atStart => exact ⟨0, Nat.zero_le _, rfl, hF.mono (fun j hj hq => by omega), Mk.refl _ _ _, M1, hg1⟩
  case round =>
    clear hF
    obtain ⟨k, hk, rfl, hF, hM, hM', hszr⟩ := hrel
    replace t0 := hM.cellAtR t0 (by omega)
    replace t1 := hM.cellAtR t1 (by omega)
    replace u0 := hM.cellAtR u0 (by omega)
    replace u1 := hM.cellAtR u1 (by omega)
    replace u2 := hM.cellAtR u2 (by omega)
    by_cases hlt : k < n
    · have i1 : (0 : Int) ≤ (k : Int) := by omega
      have i2 : (k : Int) < (n : Int) := by omega
      have hbq := World.block_lt_of_cell? _ _ t0
      have hbj := World.block_lt_of_cell? _ _ u0
      simp only at hbq hbj
      have hen : (callFunc 113 #[.agg #[.int .i64 x0, .int .i64 x1, .slice a n c, .int .i64 (k : Int)], .agg #[.slice none 0 0, .slice none 0 0]]).run Try.prog wr = .ok (.enter 113 #[.agg #[.int .i64 x0, .int .i64 x1, .slice a n c, .int .i64 (k : Int)], .agg #[.slice none 0 0, .slice none 0 0]]) wr := by kernel_rfl
      go_wp2_with fail
      refine (implDSz x0 x1 a n c B hs k _ (h.mk hM' hB (.inr (Nat.le_refl _))) (Nat.le_trans hB hM'.size) hn HC.out hlt).mono ?_
      rintro e w3 ⟨rfl, m3⟩
      have hF2 := hF.keep m3
      obtain ⟨u, p, fr⟩ := hF2.any hlt
      have hs3 := m3.size
      go_wp2_with fail
      go_roundw
      case rel => exact ⟨k + 1, by omega, by go_num, (hF2.set hlt rfl).mono (fun j hj hq => by omega), ((hM.trans (m3.wide (.inl (Nat.le_refl _)))).putR _ _ (Nat.le_refl _) (Nat.lt_succ_self _)), (hM'.trans m3).put _ _ (by show w.heap.size ≤ (w.heap.size + 1 + 1); omega), by simp only [World.size_set]; omega⟩
      case measure => simp [intOf]; omega
    · obtain rfl : k = n := by omega
      go_wp2_with fail
      go_ret
      exact ⟨_, rfl, fun j hj => by obtain ⟨v, h1, _, h3⟩ := hF j hj; rw [h1, h3 hj], hM'⟩

set_option maxRecDepth 100000 in
set_option maxHeartbeats 4000000 in
theorem implSds (x0 x1 : Int) (a a3 : Option Addr) (n c n3 c3 B : Nat) (hs : List THop) (w : World) (h : HasHop w B a n hs) (hB : B ≤ w.heap.size) (hn : n ≤ 1048576) (hc : n ≤ c) :
    Calls Try.prog 35 #[.agg #[.int .i64 x0, .int .i64 x1, .slice a n c, .slice a3 n3 c3]] w fun e w' => e = .returned (.int .i64 (sdSum n)) ∧ Mk0 w w' := by
  have M0 := Mk.alloc w (Obj.cells #[Value.int .i64 x0, Value.int .i64 x1, Value.slice a n c, Value.slice a3 n3 c3] 58)
  have u0 : (w.alloc (Obj.cells #[Value.int .i64 x0, Value.int .i64 x1, Value.slice a n c, Value.slice a3 n3 c3] 58)).cell? ⟨w.heap.size, 0, none⟩ = some (.int .i64 x0) := by simp [go_sem]
  have u1 : (w.alloc (Obj.cells #[Value.int .i64 x0, Value.int .i64 x1, Value.slice a n c, Value.slice a3 n3 c3] 58)).cell? ⟨w.heap.size, 1, none⟩ = some (.int .i64 x1) := by simp [go_sem]
  have u2 : (w.alloc (Obj.cells #[Value.int .i64 x0, Value.int .i64 x1, Value.slice a n c, Value.slice a3 n3 c3] 58)).cell? ⟨w.heap.size, 2, none⟩ = some (.slice a n c) := by simp [go_sem]
  go_enter Try.func35, Try.ntmps35
  go_wp2_with fail
  refine (implEach x0 x1 a n c B hs _ (h.mk M0 hB (.inr (Nat.le_refl _))) (Nat.le_trans hB M0.size) hn hc).mono ?_
  rintro e w2 ⟨g, rfl, hg, m2⟩
  have M2 := M0.trans m2
  clear u0 u1 u2 M0
  go_wp2_with fail
  go_loopw [3, 5, 11] (fun v q i wr => ∃ k : Nat, k ≤ n ∧ i = .int .i64 k ∧ v = .int .i64 (sdSum k) ∧ Mk0 w2 wr) (fun _ _ i _ => n - (intOf i).toNat)
  case atStart => exact ⟨0, Nat.zero_le _, rfl, rfl, Mk.refl _ _ _⟩
  case round =>
    obtain ⟨k, hk, rfl, rfl, hM⟩ := hrel
    by_cases hlt : k < n
    · have hbd := sdSum_bd k (by omega)
      have hd := dsz_le hlt hn
      have hd0 : (0 : Int) ≤ ((dsz k : Nat) : Int) := by omega
      obtain ⟨S, hS⟩ : ∃ S, Hid (S = sdSum k) := ⟨_, Lib.hid rfl⟩
      have HN := Lib.hid (show sdSum (k + 1) = S + (dsz k : Int) by rw [sdSum, ← hS.out])
      rw [← hS.out] at hbd ⊢
      obtain ⟨hb0, hb1⟩ := hbd
      have hb2 : S ≤ 6000000000000 := by omega
      clear hb1
      have i1 : (0 : Int) ≤ (k : Int) := by omega
      have i2 : (k : Int) < (n : Int) := by omega
      have ck := hM.cellAt (hg k hlt)
      go_wp2_with fail
      go_roundw
      case rel => exact ⟨k + 1, by omega, by go_num, by rw [HN.out], hM⟩
      case measure => simp [intOf]; omega
    · obtain rfl : k = n := by omega
      go_wp2_with fail
      go_ret
      exact ⟨rfl, M2.trans hM⟩

end Go.Proofs.Ytiphndgmgpiodaa
