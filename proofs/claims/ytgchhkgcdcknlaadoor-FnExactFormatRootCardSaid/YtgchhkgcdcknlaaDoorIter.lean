
/- The elements of a set: the program's iterator, and what ranges over it. -/
import Derived.RangeFuncNested
import Derived.RangeFuncBound
import Derived.RangeFuncCalls
import Derived.RangeFuncLeaves
import Derived.RangeFuncFrom
import Derived.Shelf.Abstract
import Derived.Shelf.RegionOpen
import Derived.WalkKit
import Derived.OwnWalkIn
import Derived.TacticsInMore
import Derived.LoopNIn
import Derived.LoopIn
import Derived.Maps.AppendAt
import Derived.Test.YtgchhkgcdcknlaaDoorKp
import Derived.Test.YtgchhkgcdcknlaaDoorSetOps
import Derived.Test.YtgchhkgcdcknlaaDoorIntS
import Derived.Test.YtgchhkgcdcknlaaDoorApp
namespace Go.Proofs.YtgchhkgcdcknlaaDoor
open Go Go.Proofs Go.RowKit Go.Shelf Go.ChangeShapes Go.WideShapes Go.ChangeAt
set_option linter.unusedVariables false
attribute [local go_sem] Oper.semAt_some
def elN (s : Int) : Nat → List Int
  | 0 => []
  | k + 1 => if hasB s (k : Int) then elN s k ++ [(k : Int)] else elN s k
theorem elN_len (s : Int) : ∀ k, (elN s k).length ≤ k
  | 0 => by simp [elN]
  | k + 1 => by
    have := elN_len s k
    rw [elN]
    split
    · simp; omega
    · omega
theorem elN_pre (s : Int) (k : Nat) : ∀ m, k ≤ m → elN s k <+: elN s m
  | 0, h => by obtain rfl : k = 0 := by omega
               exact List.prefix_refl _
  | m + 1, h => by
    by_cases e : k = m + 1
    · rw [e]; exact List.prefix_refl _
    · have := elN_pre s k m (by omega)
      rw [elN]
      split
      · exact this.trans (List.prefix_append _ _)
      · exact this

set_option maxRecDepth 100000 in
set_option maxHeartbeats 2000000 in
theorem elementsOf_in (s : Int) (w : World) :
    CallsIn Fence.wide 5 Tryd.prog 50 #[.int .i64 s] w fun e w' => e = .returned (.func (.func 69) #[] #[.pointer (some ⟨w.heap.size, 0, none⟩)]) ∧ w' = w.alloc (.cells #[.int .i64 s] 3) := by
  refine callsIn_of_wp Tryd.func50 rfl trivial ?_ rfl
  simp only [Tryd.ntmps50, List.size_toArray, List.length_cons, List.length_nil, Nat.reduceAdd, Nat.reduceSub, Array.replicate_succ, Array.replicate_zero, List.push_toArray, List.append_toArray, List.nil_append, List.cons_append]
  gi_wp2
  go_ret
  exact ⟨rfl, rfl⟩

set_option maxRecDepth 100000 in
set_option maxHeartbeats 4000000 in
theorem elements1_in (l Bn n₀ : Nat) (s : Int) (J Jx : List Int → World → Prop)
    (hY : ∀ pre x W, J pre W → pre.length < 16 → YieldAt Fence.wide 4 Tryd.prog l #[.int .i64 x] W fun e W' =>
      (e = .returned (.bool true) ∧ J (pre ++ [x]) W' ∧ KpC Bn n₀ W W') ∨ (e = .returned (.bool false) ∧ Jx (pre ++ [x]) W'))
    (W : World) (hBn : W.cell? ⟨Bn, 0, none⟩ = some (.int .i64 s)) (h0 : J [] W) :
    CallsIn Fence.wide 5 Tryd.prog 69 #[.func (.yield l) #[] #[], .pointer (some ⟨Bn, 0, none⟩)] W fun e W' => (∃ v, e = .returned v) ∧
      ((∃ ys, ys = elN s 16 ∧ J ys W') ∨ (∃ pre, pre <+: elN s 16 ∧ Jx pre W')) := by
  refine callsIn_of_wp Tryd.func69 rfl trivial ?_ rfl
  simp only [Tryd.ntmps69, List.size_toArray, List.length_cons, List.length_nil, Nat.reduceAdd, Nat.reduceSub, Array.replicate_succ, Array.replicate_zero, List.push_toArray, List.append_toArray, List.nil_append, List.cons_append]
  gi_wp2
  gi_loopw [4] (fun i wr => ∃ k : Nat, k ≤ 16 ∧ i = .int .i64 k ∧ wr.cell? ⟨Bn, 0, none⟩ = some (.int .i64 s) ∧ J (elN s k) wr) (fun i _ => 16 - (intOf i).toNat)
  case atStart => exact ⟨0, by omega, rfl, hBn, h0⟩
  case round =>
    obtain ⟨k, hk, rfl, hB, hJ⟩ := hrel
    by_cases hk16 : k < 16
    · cases hb : hasB s (k : Int) with
      | true =>
        have he : elN s (k + 1) = elN s k ++ [(k : Int)] := by rw [elN, if_pos hb]
        have hl := elN_len s k
        obtain ⟨fn, tmps, assign, body, hy, hR⟩ := hY (elN s k) (k : Int) wr hJ (by omega)
        have HB := Lib.hid hb
        have HE := Lib.hid he
        clear hb he
        gi_wp2_with (refine ⟨trivial, ?_⟩; gi_at_call 70; refine (callsIn_wide.2 (implContains _ _ _)).mono ?_; rw [HB.out]; rintro e w' ⟨rfl, rfl⟩)
        refine hR.mono ?_
        rintro e W3 (⟨rfl, hJ3, hk3⟩ | ⟨rfl, hJx3⟩)
        · have hB3 : W3.cell? ⟨Bn, 0, none⟩ = some (.int .i64 s) := hk3.cell.trans hB
          gi_wp2
          go_roundw
          case rel => exact ⟨k + 1, by omega, by go_num, hB3, by rw [HE.out]; exact hJ3⟩
          case measure => simp [intOf]; omega
        · gi_wp2
          refine bodyPost_ret (results_none rfl _ _ _) rfl ?_
          exact ⟨⟨_, rfl⟩, .inr ⟨elN s k ++ [(k : Int)], by rw [← HE.out]; exact elN_pre s (k + 1) 16 (by omega), hJx3⟩⟩
      | false =>
        have he : elN s (k + 1) = elN s k := by rw [elN, if_neg (by simp [hb])]
        have HB := Lib.hid hb
        have HE := Lib.hid he
        clear hb he
        gi_wp2_with (refine ⟨trivial, ?_⟩; gi_at_call 70; refine (callsIn_wide.2 (implContains _ _ _)).mono ?_; rw [HB.out]; rintro e w' ⟨rfl, rfl⟩)
        refine ⟨fun _ h => (by cases h), ?_⟩
        gi_wp2
        go_roundw
        case rel => exact ⟨k + 1, by omega, by go_num, hB, by rw [HE.out]; exact hJ⟩
        case measure => simp [intOf]; omega
    · obtain rfl : k = 16 := by omega
      gi_wp2
      go_end0
      exact ⟨⟨_, rfl⟩, .inl ⟨elN s 16, rfl, hJ⟩⟩

theorem elements_stops (s : Int) (Bn n₀ : Nat) (w : World) (hBn : Bn < w.heap.size) (hc : w.cell? ⟨Bn, 0, none⟩ = some (.int .i64 s)) :
    SeqStopsK Fence.wide 5 Tryd.prog 69 #[.pointer (some ⟨Bn, 0, none⟩)] (fun x : Int => #[Value.int .i64 x]) (KpC Bn n₀) (fun ys => ys = elN s 16) (fun pre => pre <+: elN s 16) 16 w := fun l J Jx W hW _ _ hY h0 =>
  elements1_in l Bn n₀ s J Jx hY W ((hW.cell (p := ⟨Bn, 0, none⟩) hBn).trans hc) h0
end Go.Proofs.YtgchhkgcdcknlaaDoor
