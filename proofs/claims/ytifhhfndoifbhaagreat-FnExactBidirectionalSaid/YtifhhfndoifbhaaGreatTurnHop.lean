
/- turned over rows of Hop. -/
import Derived.Test.YtifhhfndoifbhaaGreatTurn
import Derived.Test.YtifhhfndoifbhaaGreatSHop
import Derived.Test.YtifhhfndoifbhaaGreatAppR
import Derived.Test.YtifhhfndoifbhaaGreatRow
import Derived.Laws.EntriesVeiled
namespace Go.Proofs.YtifhhfndoifbhaaGreat
open Go.ChangeShapes Go.WideShapes Go.ChangeAt Go.RowKit
set_option linter.unusedVariables false
set_option maxRecDepth 100000 in
set_option maxHeartbeats 4000000 in
theorem turnedHop (g : THop → THop) (Fc : FuncId) (a : Option Addr) (n c B : Nat) (zs : List THop) (w : World) (h : HasHop w B a n zs) (hB : B ≤ w.heap.size) (hn : n ≤ 1048576)
    (hen : ∀ (x : THop) w1, (callFunc Fc #[.agg #[.int .i64 x.nd, .int .i64 x.ing, .int .i64 x.eg, .int .i64 x.exp, .int .i64 x.mac]]).run Tryz.prog w1 = .ok (.enter Fc #[.agg #[.int .i64 x.nd, .int .i64 x.ing, .int .i64 x.eg, .int .i64 x.exp, .int .i64 x.mac]]) w1)
    (hcl : ∀ (x : THop) w1, Calls Tryz.prog Fc #[.agg #[.int .i64 x.nd, .int .i64 x.ing, .int .i64 x.eg, .int .i64 x.exp, .int .i64 x.mac]] w1 fun e w2 => e = .returned (.agg #[.int .i64 (g x).nd, .int .i64 (g x).ing, .int .i64 (g x).eg, .int .i64 (g x).exp, .int .i64 (g x).mac]) ∧ Mk0 w1 w2) :
    Calls Tryz.prog 72 #[.slice a n c, .func (.func Fc) #[] #[]] w (OutRows 5 THop.cell w (turnL g zs n)) := by
  obtain ⟨i0, hi, hz0, hz1, hz2⟩ := info_parts infoRHop
  have hu := Tryz.underlying48
  have HCL := Lib.hid hcl
  have HEN := Lib.hid hen
  clear hcl hen
  go_enter Tryz.func72, Tryz.ntmps72
  go_wp2_with (with_reducible refine wpList_make_full w rfl (.tmp 9) (.tmp 9) 48 rfl w.heap.size 53 i0 (.agg #[.int .i64 0, .int .i64 0, .int .i64 0, .int .i64 0, .int .i64 0]) 5 hu hi hz0 hz1 .i64 .i64 n n n rfl rfl rfl rfl (by rw [hz2]; omega) (by unfold maxLen; omega) (Nat.le_refl _) ?_; intro w1 hown hgr)
  have hF := (ownsRow_fillR hown (flat 5 THop.cell zs)).toP (g := flat 5 THop.cell (turnL g zs n))
  have hB1 : Mk0 w w1 := Mk.of_below ((Below.refl _ _).grown hgr (Nat.le_refl _) (fun k hk => by cases hk))
  have hsz1 : w.heap.size < w1.heap.size := (hown.lt _ rfl).2
  clear hown hgr hu
  go_loopw [13] (fun i wr => ∃ k : Nat, k ≤ n ∧ i = .int .i64 k ∧ FillP wr w.heap.size (n * 5) (fun j => (n - k) * 5 ≤ j) (flat 5 THop.cell (turnL g zs n)) ∧ Mk0 w wr ∧ w.heap.size < wr.heap.size) (fun i _ => n - (intOf i).toNat)
  case atStart => exact ⟨0, Nat.zero_le _, rfl, hF.mono (fun j hj hq => by simp at hq; omega), hB1, hsz1⟩
  case round =>
    clear hF hB1 hsz1
    obtain ⟨k, hk, rfl, hF, hM, hszr⟩ := hrel
    by_cases hlt : k < n
    · obtain ⟨b, off, x, rfl, hb, hx, c0, c1, c2, c3, c4⟩ := HasHop.at _ _ _ _ _ _ (h.mk hM hB (.inr (Nat.le_refl _))) hlt
      have hbr := World.block_lt_of_cell? _ _ c0
      simp only at hbr
      obtain ⟨m, hm⟩ : ∃ m, Hid (n = m + k + 1) := ⟨n - 1 - k, by show n = n - 1 - k + k + 1; omega⟩
      have hmn : m < n := by have := hm.out; omega
      have hq : (n : Int) - 1 - (k : Int) = (m : Int) := by have := hm.out; omega
      have HG := Lib.hid (show (turnL g zs n).getD m default = g x by rw [turnL_at g zs n m hmn, show n - 1 - m = k by have := hm.out; omega, ← hx.out])
      have hcl := HCL.out x
      have hen := HEN.out x
      have hml : m * 5 + 5 ≤ n * 5 := by have : (m + 1) * 5 ≤ n * 5 := Nat.mul_le_mul_right _ hmn; rw [Nat.succ_mul] at this; exact this
      have MX := Mk.alloc wr (Obj.cells #[Value.int .i64 x.nd, Value.int .i64 x.ing, Value.int .i64 x.eg, Value.int .i64 x.exp, Value.int .i64 x.mac] 53)
      have hcl1 := hcl (wr.alloc (Obj.cells #[Value.int .i64 x.nd, Value.int .i64 x.ing, Value.int .i64 x.eg, Value.int .i64 x.exp, Value.int .i64 x.mac] 53))
      clear hcl
      go_wp2_with fail
      refine hcl1.mono ?_
      rintro e w2 ⟨rfl, m2⟩
      clear hcl1 hen
      have hF2 := hF.keep (MX.trans m2)
      have hsz2 := (MX.trans m2).size
      obtain ⟨v0, p0, f0⟩ := hF2.any (j := m * 5) (by omega)
      obtain ⟨v1, p1, f1⟩ := hF2.any (j := m * 5 + 1) (by omega)
      obtain ⟨v2, p2, f2⟩ := hF2.any (j := m * 5 + 2) (by omega)
      obtain ⟨v3, p3, f3⟩ := hF2.any (j := m * 5 + 3) (by omega)
      obtain ⟨v4, p4, f4⟩ := hF2.any (j := m * 5 + 4) (by omega)
      go_wp2_with fail
      go_roundw
      case rel =>
        refine ⟨k + 1, by omega, by go_num, ((((((hF2.set (m := m * 5) (by omega) (by rw [show m * 5 = m * 5 + 0 from rfl, flat_at (turnL g zs n) m 0 (by omega), HG.out]; rfl)).set (m := m * 5 + 1) (by omega) (by rw [flat_at (turnL g zs n) m 1 (by omega), HG.out]; rfl)).set (m := m * 5 + 2) (by omega) (by rw [flat_at (turnL g zs n) m 2 (by omega), HG.out]; rfl)).set (m := m * 5 + 3) (by omega) (by rw [flat_at (turnL g zs n) m 3 (by omega), HG.out]; rfl)).set (m := m * 5 + 4) (by omega) (by rw [flat_at (turnL g zs n) m 4 (by omega), HG.out]; rfl))).mono (fun j hj hq => ?_), ?_, ?_⟩
        · have h1 : m * 5 ≤ j := by rw [show n - (k + 1) = m by have := hm.out; omega] at hq; exact hq
          have h2 : n - k = m + 1 := by have := hm.out; omega
          rw [h2, Nat.succ_mul]
          omega
        · exact (((((hM.trans (MX.trans m2)).put _ _ (Nat.le_refl _)).put _ _ (Nat.le_refl _)).put _ _ (Nat.le_refl _)).put _ _ (Nat.le_refl _)).put _ _ (Nat.le_refl _)
        · simp only [World.size_set]; omega
      case measure => simp [intOf]; omega
    · obtain rfl : k = n := by omega
      go_wp2_with fail
      go_ret
      have hA := (hF.mono (q := fun _ => True) (fun j hj _ => by simp)).all
      exact ⟨_, k, k, rfl, ⟨(fun h => by cases h), Nat.le_refl _, by omega⟩, hA.ownR (turnL_len g zs k) (fun i hi j hj => flat_at _ _ _ hj) (Nat.le_refl _) hszr (by decide), hM⟩

end Go.Proofs.YtifhhfndoifbhaaGreat
