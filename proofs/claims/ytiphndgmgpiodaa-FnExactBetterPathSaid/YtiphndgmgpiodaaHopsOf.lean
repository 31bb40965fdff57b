
/- The hops of all parts of a path, by the program; HopCount of both sides. -/
import Derived.Test.YtiphndgmgpiodaaAppH
import Derived.Test.YtiphndgmgpiodaaNPathPart
import Derived.Test.YtiphndgmgpiodaaCPath
import Derived.Test.YtiphndgmgpiodaaRet
namespace Go.Proofs.Ytiphndgmgpiodaa
open Go.ChangeShapes Go.WideShapes Go.ChangeAt Go.RowKit
set_option linter.unusedVariables false
def catH (ps : List TPathPart) : Nat → List THop
  | 0 => []
  | k + 1 => catH ps k ++ (ps.getD k default).hops
theorem catH_len (ps : List TPathPart) : ∀ k, (catH ps k).length = sumTo sePathPart ps k
  | 0 => rfl
  | k + 1 => by rw [catH, List.length_append, catH_len ps k]; rfl

set_option maxRecDepth 100000 in
set_option maxHeartbeats 4000000 in
theorem hopsOf (a : Option Addr) (n c B : Nat) (ps : List TPathPart) (w : World) (h : HasPathPart w B a n ps) (hB : B ≤ w.heap.size) (hn : szPathPart ps n ≤ 1048576) :
    Calls Try.prog 143 #[.agg #[.slice a n c]] w fun e w' => ∃ A cc, e = .returned (.slice A (sumTo sePathPart ps n) cc) ∧ HasHop w' w'.heap.size A (sumTo sePathPart ps n) (catH ps n) ∧ Mk0 w w' := by
  have hn0 : n ≤ 1048576 := Nat.le_trans (szPathPart_n ps n) hn
  have M0 := Mk.alloc w (Obj.cells #[Value.slice a n c] 75)
  obtain ⟨i0, hi0, hz0, hz1, hz2⟩ := info_parts infoRHop
  go_enter Try.func143, Try.ntmps143
  go_wp2_with fail
  have hl0 := own_emptyH (w.alloc (Obj.cells #[Value.slice a n c] 75)) 24
  have ML := Mk.alloc (w.alloc (Obj.cells #[Value.slice a n c] 75)) (.cells #[] 24)
  go_loopw [3, 10] (fun v i wr => ∃ k : Nat, k ≤ n ∧ i = .int .i64 k ∧ wr.ownsRow (w.alloc (Obj.cells #[Value.slice a n c] 75)).heap.size 24 5 v (sumTo sePathPart ps k) (hopsC (catH ps k)) ∧ Mk0 (w.alloc (Obj.cells #[Value.slice a n c] 75)) wr) (fun _ i _ => n - (intOf i).toNat)
  case atStart => exact ⟨0, Nat.zero_le _, rfl, by simpa [catH, sumTo, hopsC] using hl0, ML⟩
  case round =>
    clear hl0 ML
    obtain ⟨k, hk, rfl, hown, hM⟩ := hrel
    have hM' := M0.trans hM
    by_cases hlt : k < n
    · obtain ⟨b, off, x, rfl, hb, hx, a3, n3, c3, d0, d1, d2, d3, r3, m3, t3, z3⟩ := HasPathPart.at _ _ _ _ _ _ (h.mk hM' hB (.inr (Nat.le_refl _))) hlt
      have hbr := World.block_lt_of_cell? _ _ d0
      simp only at hbr
      have hB1 := Nat.le_trans hB hM'.size
      have HS := Lib.hid (show catH ps (k + 1) = catH ps k ++ x.hops by rw [catH, ← hx.out])
      have HT := Lib.hid (show sumTo sePathPart ps (k + 1) = sumTo sePathPart ps k + n3 by rw [sumTo, ← hx.out]; unfold sePathPart; rw [r3.1])
      have hbd : sumTo sePathPart ps k + n3 ≤ 1048576 := by
        have h1 := sumTo_le sePathPart ps (show k + 1 ≤ n from hlt)
        have h2 := HT.out
        unfold szPathPart at hn
        omega
      have MX := Mk.alloc wr (Obj.cells #[Value.int .i64 x.kind, Value.int .i64 x.ts, Value.int .i64 x.beta, Value.slice a3 n3 c3] 140)
      have ho3 := own_keptH hown MX
      have hh3 := (r3.mk MX hB1 (.inr (Nat.le_refl _))).mono (Nat.le_trans hB1 MX.size)
      have hlo := (hM.trans MX).size
      go_wp2_with (at_builtin; refine wpList_appH rfl (.tmp 14) (.tmp 16) 31 rfl (w.alloc (Obj.cells #[Value.slice (some ⟨b, off, none⟩) n c] 75)).heap.size 24 i0 Try.underlying31 hi0 hz0 hz1 (by rw [hz2]; decide) _ (catH ps k) (sumTo sePathPart ps k) rfl ho3 a3 n3 c3 x.hops rfl z3 hh3 (by omega) hlo ?_; intro v2 w2 hown2 hgr2)
      have M2 := (hM.trans MX).appH hgr2 (fun g hg => (ho3.lt g hg).1)
      go_wp2_with fail
      go_roundw
      case rel => exact ⟨k + 1, by omega, by go_num, by rw [HS.out, HT.out]; exact hown2, M2⟩
      case measure => simp [intOf]; omega
    · obtain rfl : k = n := by omega
      obtain ⟨A, cc, rfl, _⟩ := ownsRow_sliceH hown
      have HO := Lib.hid (ownsRow_hops hown)
      clear hown
      go_wp2_with fail
      go_ret
      exact ⟨_, _, rfl, HO.out, hM'⟩

end Go.Proofs.Ytiphndgmgpiodaa
