
/- slices.Concat of slices of integers. -/
import Derived.Test.YtoicmmandniagaaRows
import Derived.Test.YtoicmmandniagaaInfo
import Derived.Test.YtoicmmandniagaaApp
namespace Go.Proofs.Ytoicmmandniagaa
open Go.ChangeShapes Go.WideShapes Go.ChangeAt Go.RowKit
set_option linter.unusedVariables false

set_option maxRecDepth 100000 in
set_option maxHeartbeats 800000 in
theorem growNil (n : Nat) (w : World) (h0 : 0 < n) (h1 : n ≤ 1073741824) :
    Calls Try.prog 87 #[.slice none 0 0, .int .i64 n] w fun e w' => ∃ v, e = .returned v ∧ w'.ownsRow w.heap.size 3 1 v 0 [] ∧ Below w.heap.size w w' := by
  obtain ⟨i0, hi, hz0, hz1, hz2⟩ := info_parts infoI64
  have happ := Lib.run_append_nil_zeros (P := Try.prog) w 55 3 55 3 i0 (.int .i64 0) .i64 .i64 Try.underlying55 Try.underlying3 hi hz0 n h0 (by omega) (by omega) (by rw [hz2]; omega)
  obtain ⟨cap, hcap⟩ : ∃ cap, cap = grownCap w n 0 3 := ⟨_, rfl⟩
  have hge : n ≤ cap := by rw [hcap]; exact grownCap_ge w n 0 _
  have hle : cap ≤ maxLen := by rw [hcap]; exact grownCap_le_maxLen w n 0 _ (by unfold maxLen; omega)
  rw [← hcap] at happ
  obtain ⟨C, hC⟩ : ∃ C, C = Builtin.zeroCells (Value.int .i64 0).cells n ++ Builtin.zeroCells (Value.int .i64 0).cells (cap - n) := ⟨_, rfl⟩
  have hCs : C.size = cap * 1 := by rw [hC]; simp [size_zeroCells, Value.cells]; omega
  rw [← hC] at happ
  have HA := Lib.hid happ
  unfold maxLen at hle
  clear happ hC hcap
  go_enter Try.func87, Try.ntmps87
  go_wp2_with (at_builtin; refine Lib.wpList_append_run _ rfl (.tmp 20) (.tmp 21) 55 3 rfl _ _ rfl rfl _ _ HA.out ?_)
  go_ret
  refine ⟨_, rfl, ⟨rfl, .inr ⟨w.heap.size, cap, C, rfl, Nat.le_refl _, heap_alloc_new w.drew _, Nat.zero_le _, by unfold maxLen; omega, hCs, by simp⟩⟩, ?_⟩
  exact ((Below.refl _ _).alloc (Nat.le_refl _) _).drew

theorem flat_succ (P : List (List Int)) (k : Nat) (h : k < P.length) : (P.take (k + 1)).flatten = (P.take k).flatten ++ P.getD k [] := by
  rw [List.take_succ_eq_append_getElem h, List.flatten_append]
  simp [List.getD_eq_getElem?_getD, h]
theorem flat_len (P : List (List Int)) (k : Nat) : (P.take k).flatten.length ≤ P.flatten.length := by
  have h : P.flatten = (P.take k).flatten ++ (P.drop k).flatten := by rw [← List.flatten_append, List.take_append_drop]
  rw [h, List.length_append]
  omega

/-- Parts of a slice of slices. -/
def Parts (w : World) (b off : Nat) (P : List (List Int)) : Prop :=
  b < w.heap.size ∧ ∀ j, j < P.length → ∃ A n c, w.cell? ⟨b, off + j, none⟩ = some (.slice A n c) ∧ (A = none → c = 0) ∧ Has .i64 w w.heap.size A n (P.getD j [])
theorem Parts.below {w w' : World} {b off : Nat} {P : List (List Int)} (h : Parts w b off P) (hb : Below w.heap.size w w') : Parts w' b off P :=
  ⟨Nat.lt_of_lt_of_le h.1 hb.size, fun j hj => by
    obtain ⟨A, n, c, h1, h2, h3⟩ := h.2 j hj
    exact ⟨A, n, c, by rw [hb.cell h.1]; exact h1, h2, h3.next hb⟩⟩

set_option maxRecDepth 100000 in
set_option maxHeartbeats 1600000 in
theorem concatInts (b off cap : Nat) (P : List (List Int)) (w : World) (h : Parts w b off P) (hP : P.length ≤ 8) (h0 : 0 < P.flatten.length) (h1 : P.flatten.length ≤ 1073741824) :
    Calls Try.prog 86 #[.slice (some ⟨b, off, none⟩) P.length cap] w fun e w' => ∃ v, e = .returned v ∧ w'.ownsRow w.heap.size 3 1 v P.flatten.length (P.flatten.map (.int .i64)) ∧ Below w.heap.size w w' := by
  obtain ⟨m, hm⟩ : ∃ m, m = P.length := ⟨_, rfl⟩
  rw [← hm] at hP ⊢
  have HM := Lib.hid hm
  clear hm
  obtain ⟨N, hN⟩ : ∃ N, N = P.flatten.length := ⟨_, rfl⟩
  rw [← hN] at h0 h1 ⊢
  have HN := Lib.hid hN
  clear hN
  go_enter Try.func86, Try.ntmps86
  go_wp2
  go_loop [3, 11] (fun s i => ∃ k z : Nat, k ≤ m ∧ i = .int .i64 k ∧ Hid (z = (P.take k).flatten.length) ∧ s = .int .i64 z) (fun _ i => m - (intOf i).toNat)
  case atStart => exact ⟨0, 0, Nat.zero_le _, rfl, by simp [Hid], rfl⟩
  case round =>
    obtain ⟨k, z, hk, rfl, hz, rfl⟩ := hrel
    have hzN : z ≤ N := by rw [hz.out, HN.out]; exact flat_len P k
    by_cases hlt : k < m
    · obtain ⟨A, n, c, hc, hc0, hh⟩ := h.2 k (by rw [← HM.out]; exact hlt)
      have hs := flat_succ P k (by rw [← HM.out]; exact hlt)
      have hz' : Hid (z + n = (P.take (k + 1)).flatten.length) := by rw [hs, List.length_append, ← hz.out, hh.1]; rfl
      have hzN' : z + n ≤ N := by rw [hz'.out, HN.out]; exact flat_len P _
      clear hs
      go_wp2
      go_round
      case rel => exact ⟨k + 1, z + n, by omega, by go_num, hz', by go_num⟩
      case measure => simp [intOf]; omega
    · obtain rfl : k = m := by omega
      have hzz : z = N := by rw [hz.out, HN.out, HM.out, List.take_length]
      subst hzz
      go_wp2_with fail
      refine (growNil z w h0 h1).mono ?_
      rintro e w1 ⟨v, rfl, hown, hb1⟩
      go_wp2_with fail
      go_loopw [6, 27] (fun v i wr => ∃ k' z' : Nat, k' ≤ k ∧ i = .int .i64 k' ∧ z' ≤ z ∧ Hid (z' = (P.take k').flatten.length) ∧ wr.ownsRow w.heap.size 3 1 v z' ((P.take k').flatten.map (.int .i64)) ∧ Below w.heap.size w wr) (fun _ i _ => k - (intOf i).toNat)
      case atStart => exact ⟨0, 0, Nat.zero_le _, rfl, Nat.zero_le _, by simp [Hid], by simpa using hown, hb1⟩
      case round =>
        clear hown hb1
        obtain ⟨k', z', hk', rfl, hle, hz', hown, hb⟩ := hrel
        by_cases hlt' : k' < k
        · obtain ⟨A, n, c, hc, hc0, hh⟩ := (h.below hb).2 k' (by rw [← HM.out]; exact hlt')
          have hs := flat_succ P k' (by rw [← HM.out]; exact hlt')
          have hz'' : Hid (z' + n = (P.take (k' + 1)).flatten.length) := by rw [hs, List.length_append, ← hz'.out, hh.1]; rfl
          have hzN' : z' + n ≤ z := by rw [hz''.out, HN.out]; exact flat_len P _
          have hs' := Lib.hid hs
          clear hs
          obtain ⟨i0, hi, hz0, hz1, hz2⟩ := info_parts infoI64
          have hlo := hb.size
          go_wp2_with (at_builtin; refine wpList_app rfl (.tmp 31) (.tmp 32) 55 rfl w.heap.size 3 i0 Try.underlying55 hi hz0 hz1 (by rw [hz2]; decide) _ _ z' rfl hown A n c _ rfl hc0 hh (by omega) hlo ?_; intro v' w2 hown' hgr _)
          have hb2 := hb.grown hgr hlo (fun g hg => (hown.lt g hg).1)
          go_roundw
          case rel => exact ⟨k' + 1, z' + n, by omega, by go_num, hzN', hz'', by rw [hs'.out]; exact hown', hb2⟩
          case measure => simp [intOf]; omega
        · obtain rfl : k' = k := by omega
          have hfin : (P.take k').flatten = P.flatten := by rw [HM.out, List.take_length]
          obtain rfl : z' = z := by rw [hz'.out, hfin]; exact HN.out.symm
          rw [hfin] at hown
          have HO := Lib.hid hown
          clear hown hfin
          go_wp2
          go_ret
          exact ⟨_, rfl, HO.out, hb⟩
end Go.Proofs.Ytoicmmandniagaa
