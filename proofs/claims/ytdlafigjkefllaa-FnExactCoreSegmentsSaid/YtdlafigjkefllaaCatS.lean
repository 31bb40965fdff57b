
/- Rows of Segment one behind the other. -/
import Derived.Test.YtdlafigjkefllaaFaS
import Derived.Test.YtdlafigjkefllaaDig
namespace Go.Proofs.Ytdlafigjkefllaa
open Go.ChangeShapes Go.WideShapes Go.ChangeAt Go.RowKit
set_option linter.unusedVariables false
theorem getD_app_lt {β : Type} [Inhabited β] {l m : List β} {i : Nat} (h : i < l.length) : (l ++ m).getD i default = l.getD i default := by
  simp only [List.getD_eq_getElem?_getD, List.getElem?_append_left h]
theorem getD_app_ge {β : Type} [Inhabited β] {l m : List β} {i : Nat} (h : l.length ≤ i) : (l ++ m).getD i default = m.getD (i - l.length) default := by
  simp only [List.getD_eq_getElem?_getD, List.getElem?_append_right h]
/-- Two families of kids, one behind the other. -/
theorem Kids.append {η α : Type} [Inhabited η] [Inhabited α] {K : Kd η α} {w : World} {lo1 hi1 lo2 hi2 n m : Nat} {q q' : Nat → Prop} {gs gs' : List η} {ts ts' : List α} (h : Kids K w lo1 hi1 q n gs ts) (h' : Kids K w lo2 hi2 q' m gs' ts') (hg : gs.length = n) (ht : ts.length = n) (h1 : lo1 ≤ hi1) (hd : hi1 ≤ lo2) (h2 : lo2 ≤ hi2) (hq : ∀ b, q b → q' b ∨ b < lo2 ∨ hi2 ≤ b) : Kids K w lo1 hi2 q (n + m) (gs ++ gs') (ts ++ ts') := by
  obtain ⟨l, r, ha, hk⟩ := h
  obtain ⟨l', r', ha', hk'⟩ := h'
  refine ⟨fun i => if i < n then l i else l' (i - n), fun i => if i < n then r i else r' (i - n), fun i j hi hj hij => ?_, fun i hi => ?_⟩
  · by_cases e1 : i < n
    · by_cases e2 : j < n
      · simp only [e1, e2, if_true]
        exact ha i j e1 e2 hij
      · simp only [e1, e2, if_true, if_false]
        have a1 := hk i e1
        have a2 := hk' (j - n) (by omega)
        left; omega
    · by_cases e2 : j < n
      · simp only [e1, e2, if_true, if_false]
        have a1 := hk j e2
        have a2 := hk' (i - n) (by omega)
        right; omega
      · simp only [e1, e2, if_false]
        exact ha' (i - n) (j - n) (by omega) (by omega) (by omega)
  · by_cases e : i < n
    · simp only [e, if_true]
      rw [getD_app_lt (by omega), getD_app_lt (by omega)]
      obtain ⟨g1, g2, g3, g4, g5⟩ := hk i e
      exact ⟨g1, g2, by omega, g4, g5⟩
    · simp only [e, if_false]
      rw [getD_app_ge (by omega), getD_app_ge (by omega), hg, ht]
      obtain ⟨g1, g2, g3, g4, g5⟩ := hk' (i - n) (by omega)
      refine ⟨by omega, g2, g3, fun b hb => ?_, g5⟩
      rcases hq b hb with hb | hb
      · exact g4 b hb
      · omega
set_option maxRecDepth 100000 in
set_option maxHeartbeats 4000000 in
theorem growNilS (n : Nat) (w : World) (h1 : n ≤ 4194304) :
    Calls Try.prog 83 #[.slice none 0 0, .int .i64 n] w fun e w' => ∃ v, e = .returned v ∧ w'.ownsRow w.heap.size 82 3 v 0 [] ∧ Mk0 w w' := by
  by_cases h0 : n = 0
  · subst h0
    go_enter Try.func83, Try.ntmps83
    go_wp2_with fail
    go_ret
    exact ⟨_, rfl, World.ownsRow_nil _ _ _ _, Mk.refl _ _ _⟩
  obtain ⟨i0, hi, hz0, hz1, hz2⟩ := info_parts infoRSegment
  have h0 : 0 < n := by omega
  have happ := Lib.run_append_nil_zeros (P := Try.prog) w 34 3 34 82 i0 (.agg #[.int .i64 0, .int .i64 0, .slice none 0 0]) .i64 .i64 Try.underlying34 Try.underlying3 hi hz0 n h0 (by omega) (by omega) (by rw [hz2]; omega)
  obtain ⟨cap, hcap⟩ : ∃ cap, cap = grownCap w n 0 82 := ⟨_, rfl⟩
  have hge : n ≤ cap := by rw [hcap]; exact grownCap_ge w n 0 _
  have hle : cap ≤ maxLen := by rw [hcap]; exact grownCap_le_maxLen w n 0 _ (by unfold maxLen; omega)
  rw [← hcap] at happ
  obtain ⟨C, hC⟩ : ∃ C, C = Builtin.zeroCells (Value.agg #[.int .i64 0, .int .i64 0, .slice none 0 0]).cells n ++ Builtin.zeroCells (Value.agg #[.int .i64 0, .int .i64 0, .slice none 0 0]).cells (cap - n) := ⟨_, rfl⟩
  have hCs : C.size = cap * 3 := by rw [hC, Array.size_append, size_zeroCells, size_zeroCells, show (Value.agg #[.int .i64 0, .int .i64 0, .slice none 0 0]).cells.size = 3 from rfl]; omega
  rw [← hC] at happ
  have HA := Lib.hid happ
  unfold maxLen at hle
  clear happ hC hcap
  go_enter Try.func83, Try.ntmps83
  go_wp2_with (at_builtin; refine Lib.wpList_append_run _ rfl (.tmp 20) (.tmp 21) 34 3 rfl _ _ rfl rfl _ _ HA.out ?_)
  go_ret
  refine ⟨_, rfl, ⟨rfl, .inr ⟨w.heap.size, cap, C, rfl, Nat.le_refl _, heap_alloc_new w.drew _, Nat.zero_le _, by unfold maxLen; omega, hCs, by simp⟩⟩, ?_⟩
  exact (Mk.drew1 _).trans (Mk.alloc _ _)

set_option maxRecDepth 100000 in
set_option maxHeartbeats 4000000 in
theorem concatSeg (NB : Nat) (A0 A1 : Option Addr) (N0 C0 N1 C1 : Nat) (gs0 gs1 : List HSegment) (w : World) (k0 : w.cell? ⟨NB, 0, none⟩ = some (.slice A0 N0 C0)) (k1 : w.cell? ⟨NB, 1, none⟩ = some (.slice A1 N1 C1)) (h0 : HasR 3 HSegment.cell w w.heap.size A0 N0 gs0) (h1 : HasR 3 HSegment.cell w w.heap.size A1 N1 gs1) (hc0 : A0 = none → C0 = 0) (hc1 : A1 = none → C1 = 0) (hn0 : N0 ≤ 1048576) (hn1 : N1 ≤ 1048576) :
    Calls Try.prog 53 #[.slice (some ⟨NB, 0, none⟩) 2 2] w fun e w' => ∃ v, e = .returned v ∧ w'.ownsRow w.heap.size 82 3 v (N0 + N1) (rowC 3 HSegment.cell (gs0 ++ gs1)) ∧ Mk0 w w' := by
  obtain ⟨i0, hi0, hz0, hz1, hz2⟩ := info_parts infoRSegment
  have HK := Lib.hid (fun (w' : World) (m : Mk0 w w') => And.intro (m.cellAt k0) (m.cellAt k1))
  go_enter Try.func53, Try.ntmps53
  go_wp2
  go_loop [3, 11] (fun s i => (s = .int .i64 0 ∧ i = .int .i64 0) ∨ (s = .int .i64 N0 ∧ i = .int .i64 1) ∨ (s = .int .i64 ((N0 + N1 : Nat) : Int) ∧ i = .int .i64 2)) (fun _ i => 2 - (intOf i).toNat)
  case atStart => exact .inl ⟨rfl, rfl⟩
  case round =>
    rcases hrel with ⟨rfl, rfl⟩ | ⟨rfl, rfl⟩ | ⟨rfl, rfl⟩
    · go_wp2
      go_round
      case rel => exact .inr (.inl ⟨by go_num, by go_num⟩)
      case measure => simp [intOf]
    · go_wp2
      go_round
      case rel => exact .inr (.inr ⟨by go_num, by go_num⟩)
      case measure => simp [intOf]
    · go_wp2_with fail
      refine (growNilS (N0 + N1) w (by omega)).mono ?_
      rintro e w1 ⟨v, rfl, hown, hb1⟩
      clear k0 k1
      go_wp2_with fail
      go_loopw [6, 27] (fun v i wr => ∃ (z : Nat) (gs : List HSegment), ((z = 0 ∧ gs = [] ∧ i = .int .i64 0) ∨ (z = N0 ∧ gs = gs0 ∧ i = .int .i64 1) ∨ (z = N0 + N1 ∧ gs = gs0 ++ gs1 ∧ i = .int .i64 2)) ∧ wr.ownsRow w.heap.size 82 3 v z (rowC 3 HSegment.cell gs) ∧ Mk0 w wr) (fun _ i _ => 2 - (intOf i).toNat)
      case atStart => exact ⟨0, [], .inl ⟨rfl, rfl, rfl⟩, hown, hb1⟩
      case round =>
        clear hown hb1
        obtain ⟨z, gs, hc, hown, hM⟩ := hrel
        obtain ⟨k0, k1⟩ := HK.out _ hM
        have hlo := hM.size
        have hh0 := (h0.mk hM (Nat.le_refl _) (.inr (Nat.le_refl _))).mono hlo
        have hh1 := (h1.mk hM (Nat.le_refl _) (.inr (Nat.le_refl _))).mono hlo
        rcases hc with ⟨rfl, rfl, rfl⟩ | ⟨rfl, rfl, rfl⟩ | ⟨rfl, rfl, rfl⟩
        · go_wp2_with (at_builtin; refine wpList_appR (by decide) oneSegment rfl (.tmp 31) (.tmp 32) 34 rfl w.heap.size 82 i0 _ Try.underlying34 hi0 hz0 rfl hz1 (by rw [hz2]; decide) _ [] 0 rfl hown A0 N0 C0 gs0 rfl hc0 hh0 (by omega) hlo ?_; intro v' w2 hown' hgr)
          have M2 := hM.appR hgr (fun g hg => (hown.lt g hg).1)
          rw [Nat.zero_add, List.nil_append] at hown'
          go_wp2_with fail
          go_roundw
          case rel => exact ⟨N0, gs0, .inr (.inl ⟨rfl, rfl, by go_num⟩), hown', M2⟩
          case measure => simp [intOf]
        · go_wp2_with (at_builtin; refine wpList_appR (by decide) oneSegment rfl (.tmp 31) (.tmp 32) 34 rfl w.heap.size 82 i0 _ Try.underlying34 hi0 hz0 rfl hz1 (by rw [hz2]; decide) _ _ _ rfl hown A1 N1 C1 gs1 rfl hc1 hh1 (by omega) hlo ?_; intro v' w2 hown' hgr)
          have M2 := hM.appR hgr (fun g hg => (hown.lt g hg).1)
          go_wp2_with fail
          go_roundw
          case rel => exact ⟨_, _, .inr (.inr ⟨rfl, rfl, by go_num⟩), hown', M2⟩
          case measure => simp [intOf]
        · go_wp2_with fail
          go_ret
          exact ⟨_, rfl, hown, hM⟩

set_option maxRecDepth 100000 in
set_option maxHeartbeats 4000000 in
theorem concatOwn (NB : Nat) (A A2 : Option Addr) (N C N2 C2 lo hi lo2 hi2 : Nat) (R1 R2 : List TSegment) (w : World) (q0 : w.cell? ⟨NB, 0, none⟩ = some (.slice A N C)) (q1 : w.cell? ⟨NB, 1, none⟩ = some (.slice A2 N2 C2)) (o : OwnN WSegment w lo hi A N R1) (o2 : OwnN WSegment w lo2 hi2 A2 N2 R2) (hc : A = none → C = 0) (hc2 : A2 = none → C2 = 0) (hb1 : N ≤ 1048576) (hb2 : N2 ≤ 1048576) (d2 : lo ≤ hi) (d3 : hi ≤ lo2) (d4 : lo2 ≤ hi2) (d5 : hi2 ≤ w.heap.size) :
    Calls Try.prog 53 #[.slice (some ⟨NB, 0, none⟩) 2 2] w fun e w' => ∃ A' M C', e = .returned (.slice A' M C') ∧ ((A' = none → C' = 0) ∧ (M ≤ C' ∧ C' ≤ 9223372036854775807)) ∧ OwnN WSegment w' lo w'.heap.size A' M (R1 ++ R2) ∧ Mk0 w w' := by
  obtain ⟨hl, gs, b, ho, hb, hk⟩ := o
  obtain ⟨hl2, gs2, b2, ho2, hbb2, hk2⟩ := o2
  have hh1 : HasR 3 HSegment.cell w w.heap.size A N gs := ⟨ho.1, fun h0 => (ho.has.mono (by have := hb h0; omega)).2 h0⟩
  have hh2 : HasR 3 HSegment.cell w w.heap.size A2 N2 gs2 := ⟨ho2.1, fun h0 => (ho2.has.mono (by have := hbb2 h0; omega)).2 h0⟩
  have kk := Kids.append (q := fun _ => False) (hk.avoid (fun _ h => h.elim)) (hk2.avoid (q' := fun _ => False) (fun _ h => h.elim)) ho.1 hl d2 d3 d4 (fun _ h => h.elim)
  refine (concatSeg NB A A2 N C N2 C2 gs gs2 w q0 q1 hh1 hh2 hc hc2 hb1 hb2).mono ?_
  rintro e w' ⟨v, rfl, ow, mm⟩
  obtain ⟨A9, C9, rfl, hca9, hcb9⟩ := ownsRow_sliceR2 ow
  have kA := (kk.mk mm d5 (.inr (.inr (Nat.le_refl _)))).avoid (q' := fun g => (Value.slice A9 (N + N2) C9).ownBlock = some g) (fun g hg => .inr (.inr (Nat.le_trans d5 (ow.lt g hg).1)))
  exact ⟨A9, N + N2, C9, rfl, ⟨hca9, hcb9⟩, OwnN.of_row (own_lowR ow (by omega)) (kA.wide (Nat.le_refl _) (Nat.le_trans d5 mm.size)) (by rw [List.length_append, hl, hl2]) (Nat.le_refl _), mm⟩
end Go.Proofs.Ytdlafigjkefllaa
