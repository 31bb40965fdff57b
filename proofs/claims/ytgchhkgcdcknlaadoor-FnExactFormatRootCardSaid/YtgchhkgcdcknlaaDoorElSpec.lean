
/- The elements of a set and their number, by the program and by the model, as contracts. -/
import Derived.Test.YtgchhkgcdcknlaaDoorElems
namespace Go.Proofs.YtgchhkgcdcknlaaDoor
open Go.ChangeShapes Go.WideShapes Go.ChangeAt Go.RowKit
set_option linter.unusedVariables false
theorem implSetSize (s : Int) (w : World) : Calls Tryd.prog 27 #[.int .i64 s] w fun e w' => e = .returned (.int .i64 ((elN s 16).length : Nat)) ∧ Below w.heap.size w w' :=
  callsIn_wide.1 (setSize_in s w)
set_option maxRecDepth 100000 in
set_option maxHeartbeats 1600000 in
theorem specElements (s : Int) (w : World) : Calls Tryd.prog 48 #[.int .i64 s] w (OutR .i64 w (elN s 16)) := by
  obtain ⟨i0, hi, hz0, hz1, hz2⟩ := info_parts infoI64
  have hby : i0.bytes ≤ 8 := by rw [hz2]; decide
  have he := own_lit w 3 [] (by simp)
  have hbe : Below w.heap.size w (w.alloc (.cells #[] 3)) := (Below.refl _ _).alloc (Nat.le_refl _) _
  go_enter Tryd.func48, Tryd.ntmps48
  go_wp2
  go_loopw [3, 4] (fun v i wr => ∃ k L : Nat, k ≤ 16 ∧ i = .int .i64 k ∧ L ≤ k ∧ wr.ownsRow w.heap.size 3 1 v L ((elN s k).map (.int .i64)) ∧ Below w.heap.size w wr) (fun _ i _ => 16 - (intOf i).toNat)
  case atStart => exact ⟨0, 0, by omega, rfl, by omega, he, hbe⟩
  case round =>
    clear he hbe
    obtain ⟨k, L, hk, rfl, hL, ho, hB⟩ := hrel
    have hsz := hB.size
    by_cases hlt : k < 16
    · cases hb : hasB s (k : Int) with
      | true =>
        have HE := Lib.hid (show elN s (k + 1) = elN s k ++ [(k : Int)] by rw [elN, if_pos hb])
        have HB := Lib.hid hb
        clear hb
        have hn1 := has_new .i64 wr 3 (k : Int)
        have ho' := ho.alloc (.cells #[.int .i64 (k : Int)] 3)
        have hb' := hB.alloc hsz (.cells #[.int .i64 (k : Int)] 3)
        have hlo' : w.heap.size ≤ (wr.alloc (.cells #[.int .i64 (k : Int)] 3)).heap.size := by simp; omega
        have hbnd : L + 1 ≤ 1073741824 := by omega
        go_wp2_with fail
        refine (specContains _ _ _).mono ?_
        rw [HB.out]
        rintro e w' ⟨rfl, rfl⟩
        go_wp2_with (at_builtin; refine wpList_app rfl (.tmp 13) (.tmp 15) 101 rfl w.heap.size 3 i0 Tryd.underlying101 hi hz0 hz1 hby _ (elN s k) L rfl ho' _ 1 1 [(k : Int)] rfl (fun h => by cases h) hn1 hbnd hlo' ?_; intro v2 w2 ho2 hg2 _)
        have hb2 := hb'.grown hg2 hlo' (fun g hg => (ho.lt g hg).1)
        go_roundw
        case rel => exact ⟨k + 1, L + 1, by omega, by go_num, by omega, by rw [HE.out]; exact ho2, hb2⟩
        case measure => simp [intOf]; omega
      | false =>
        have HE := Lib.hid (show elN s (k + 1) = elN s k by rw [elN, if_neg (by simp [hb])])
        have HB := Lib.hid hb
        clear hb
        go_wp2_with fail
        refine (specContains _ _ _).mono ?_
        rw [HB.out]
        rintro e w' ⟨rfl, rfl⟩
        go_wp2_with fail
        go_roundw
        case rel => exact ⟨k + 1, L, by omega, by go_num, by omega, by rw [HE.out]; exact ho, hB⟩
        case measure => simp [intOf]; omega
    · obtain rfl : k = 16 := by omega
      go_wp2
      go_ret
      exact OutR.of ho hB

set_option maxRecDepth 100000 in
theorem specSetSize (s : Int) (w : World) : Calls Tryd.prog 24 #[.int .i64 s] w fun e w' => e = .returned (.int .i64 ((elN s 16).length : Nat)) ∧ Below w.heap.size w w' := by
  go_enter Tryd.func24, Tryd.ntmps24
  go_wp2_with fail
  refine (specElements _ _).mono ?_
  rintro e w1 ⟨A, N, c, rfl, hc, ho, hb⟩
  have hl := ho.1
  have HL := Lib.hid hl
  clear hl hc
  go_wp2_with fail
  go_ret
  exact ⟨ret_i (by rw [HL.out]), hb⟩
end Go.Proofs.YtgchhkgcdcknlaaDoor
