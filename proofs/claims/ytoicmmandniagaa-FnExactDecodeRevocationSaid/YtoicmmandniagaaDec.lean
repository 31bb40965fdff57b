
/- DecodeInts, by the program and by the model. -/
import Derived.Test.YtoicmmandniagaaReadB
namespace Go.Proofs.Ytoicmmandniagaa
open Go.ChangeShapes Go.WideShapes Go.ChangeAt Go.RowKit
set_option linter.unusedVariables false
def dcN (zs : List Int) (x : Int) : Nat → Option (List Int × Int)
  | 0 => some ([], x)
  | k + 1 => (dcN zs x k).bind fun (l, a) => (rdAt zs a).map fun (n, m) => (l ++ [(n : Int)], (m : Int))
def dc (zs : List Int) (x n : Int) : Option (List Int × Int) := if 0 ≤ n ∧ n ≤ 100 ∧ 0 ≤ x ∧ x ≤ (zs.length : Int) then dcN zs x n.toNat else none
def dcR : Option (List Int × Int) → List Int
  | some (l, _) => l
  | none => []
def dcX : Option (List Int × Int) → Int
  | some (_, m) => m
  | none => 0
def dcY : Option (List Int × Int) → Bool
  | some _ => true
  | none => false
theorem dcN_none {zs : List Int} {x : Int} {k : Nat} (h : dcN zs x k = none) : ∀ N, k ≤ N → dcN zs x N = none
  | 0, hk => by obtain rfl : k = 0 := by omega
                exact h
  | N + 1, hk => by
    by_cases e : k = N + 1
    · rw [← e]; exact h
    · rw [dcN, dcN_none h N (by omega)]; rfl
theorem dcN_step {zs : List Int} {x a : Int} {k n m : Nat} {l : List Int} (h : dcN zs x k = some (l, a)) (hr : rdAt zs a = some (n, m)) : dcN zs x (k + 1) = some (l ++ [(n : Int)], (m : Int)) := by
  rw [dcN, h]; simp [hr]
theorem dcN_stop {zs : List Int} {x a : Int} {k : Nat} {l : List Int} (h : dcN zs x k = some (l, a)) (hr : rdAt zs a = none) : dcN zs x (k + 1) = none := by
  rw [dcN, h]; simp [hr]
theorem dcN_len {zs : List Int} {x : Int} : ∀ {k : Nat} {l : List Int} {a : Int}, dcN zs x k = some (l, a) → l.length = k
  | 0, l, a, h => by simp [dcN] at h; rw [h.1]; rfl
  | k + 1, l, a, h => by
    rw [dcN] at h
    cases e : dcN zs x k with
    | none => rw [e] at h; cases h
    | some p =>
      obtain ⟨l', a'⟩ := p
      rw [e] at h
      cases e' : rdAt zs a' with
      | none => simp [e'] at h
      | some q =>
        simp [e'] at h
        rw [← h.1, List.length_append, dcN_len e]; rfl
theorem dcR_len (zs : List Int) (x n : Int) : (dcR (dc zs x n)).length ≤ 100 := by
  unfold dc
  split
  · cases e : dcN zs x n.toNat with
    | none => simp [dcR]
    | some p =>
      obtain ⟨l, a⟩ := p
      have := dcN_len e
      simp only [dcR]
      omega
  · simp [dcR]
theorem Fill.cong {w : World} {b off n i : Nat} {f g : Nat → Value} (h : Fill w b off n i f) (e : ∀ j, j < i → f j = g j) : Fill w b off n i g := by
  intro j hj
  obtain ⟨v, h1, h2, h3⟩ := h j hj
  exact ⟨v, h1, h2, fun hi => (h3 hi).trans (e j hi)⟩
theorem getD_app {l : List Int} {z : Int} {k j : Nat} (h : l.length = k) (hj : j < k) : (l ++ [z]).getD j 0 = l.getD j 0 := by
  simp [List.getD_eq_getElem?_getD, List.getElem?_append_left (show j < l.length by omega)]
theorem getD_last {l : List Int} {z : Int} {k : Nat} (h : l.length = k) : (l ++ [z]).getD k 0 = z := by
  subst h; simp [List.getD_eq_getElem?_getD]
theorem empty64 (w : World) (lo : Nat) (h : lo ≤ w.heap.size) : (w.alloc (.cells #[] 3)).ownsRow lo 3 1 (.slice (some ⟨w.heap.size, 0, none⟩) 0 0) 0 (([] : List Int).map (.int .i64)) := own_low (own_lit w 3 [] (by simp)) h

set_option maxRecDepth 100000 in
set_option maxHeartbeats 1600000 in
theorem implDec (a : Option Addr) (n c : Nat) (x N : Int) (zs : List Int) (w : World) (h : Has .u8 w w.heap.size a n zs) (hf : ∀ z ∈ zs, (Lit.int .u8 z).wf = true) (hn : n ≤ 134217728) (hc : n ≤ c) (hx : (Lit.int .i64 x).wf = true) :
    Calls Try.prog 43 #[.slice a n c, .int .i64 x, .int .i64 N] w (Out3 .i64 w (dcR (dc zs x N)) (dcX (dc zs x N)) (dcY (dc zs x N))) := by
  have hl := h.1
  have HL := Lib.hid hl
  have HF := Lib.hid hf
  clear hf hl
  by_cases hN : 0 ≤ N ∧ N ≤ 100
  · obtain ⟨hN0, hN1⟩ := hN
    by_cases hX : 0 ≤ x ∧ x ≤ n
    · obtain ⟨hx0, hx1⟩ := hX
      obtain ⟨M, rfl⟩ := Int.eq_ofNat_of_zero_le hN0
      have hM : M ≤ 100 := by omega
      have HD := Lib.hid (show dc zs x (M : Int) = dcN zs x M by rw [dc, if_pos ⟨hN0, hN1, hx0, by rw [HL.out]; exact hx1⟩]; rfl)
      obtain ⟨i0, hi, hz0, hz1, hz2⟩ := info_parts infoI64
      go_enter Try.func43, Try.ntmps43
      go_wp2_with fail
      refine (implInYes _ _ _ _ (by omega) (by omega)).mono ?_
      rintro e w' ⟨rfl, rfl⟩
      go_wp2_with fail
      refine (implInYes _ _ _ _ (by omega) (by omega)).mono ?_
      rintro e w' ⟨rfl, rfl⟩
      go_wp2_with (with_reducible refine wpList_make_full w rfl (.tmp 23) (.tmp 23) 55 rfl w.heap.size 3 i0 (.int .i64 0) 1 Try.underlying55 hi hz0 hz1 .i64 .i64 M M M rfl rfl rfl rfl (by rw [hz2]; omega) (by unfold maxLen; omega) (Nat.le_refl _) ?_; intro w1 hown hgr)
      have hF := ownsRow_fill hown (fun j => Value.int .i64 (([] : List Int).getD j 0))
      have hB : Below w.heap.size w w1 := (Below.refl _ _).grown hgr (Nat.le_refl _) (fun k hk => by cases hk)
      clear hown hgr hz0 hz1 hz2 hi
      go_loopw [1, 6, 7, 8, 27] (fun at_ r0 r1 r2 i wr => r0 = .slice none 0 0 ∧ r1 = .int .i64 0 ∧ r2 = .bool false ∧ ∃ (k : Nat) (q : Int) (l : List Int), k ≤ M ∧ i = .int .i64 k ∧ at_ = .int .i64 q ∧ 0 ≤ q ∧ q ≤ n ∧ Hid (dcN zs x k = some (l, q)) ∧ Fill wr w.heap.size 0 M k (fun j => Value.int .i64 (l.getD j 0)) ∧ Below w.heap.size w wr) (fun _ _ _ _ i _ => M - (intOf i).toNat)
      case atStart => exact ⟨rfl, rfl, rfl, 0, x, [], Nat.zero_le _, rfl, rfl, hx0, hx1, rfl, hF, hB⟩
      case round =>
        clear hF hB
        obtain ⟨rfl, rfl, rfl, k, q, l, hk, rfl, rfl, hq0, hq1, hD, hF, hB⟩ := hrel
        by_cases hlt : k < M
        · have hh := (h.below hB).mono hB.size
          have hqw : (Lit.int .i64 q).wf = true := WalkArith.wf_i64 (by omega)
          rcases hr : rdAt zs q with _ | ⟨rn, rm⟩
          · have HR := Lib.hid hr
            have HS := Lib.hid (show dc zs x (M : Int) = none by rw [HD.out]; exact dcN_none (dcN_stop hD.out hr) M (by omega))
            clear hr
            obtain ⟨v, hv, hfr⟩ := hF.at0 hlt
            have hblk : w.heap.size < wr.heap.size := World.block_lt_of_cell? wr _ hv
            clear hv hfr
            go_wp2_with fail
            refine (implReadNone _ _ _ _ _ _ hh HF.out (by omega) hc hqw HR.out).mono ?_
            rintro e w2 ⟨rfl, hb2⟩
            have hF2 := hF.block (hb2.block _ hblk)
            obtain ⟨v, hv, hfr⟩ := hF2.at0 hlt
            go_wp2
            go_ret3
            have hB2 := (hB.trans (hb2.mono hB.size)).setCell (p := ⟨w.heap.size, k, none⟩) (Nat.le_refl _) (.int .i64 0)
            have e1 := HS.out
            rw [e1]
            have hee := empty64 (w2.setCell ⟨w.heap.size, k, none⟩ (.int .i64 0)) w.heap.size hB2.size
            rw [World.size_setCell] at hee
            exact Out3.of (n := 0) hee (hB2.alloc hB2.size _)
          · obtain ⟨r1, r2, r3, r4⟩ := rdAt_bd hr
            rw [HL.out] at r4
            have HR := Lib.hid hr
            have hD' : Hid (dcN zs x (k + 1) = some (l ++ [(rn : Int)], (rm : Int))) := dcN_step hD.out hr
            have hll := Lib.hid (dcN_len hD.out)
            clear hr
            obtain ⟨v, hv, hfr⟩ := hF.at0 hlt
            have hblk : w.heap.size < wr.heap.size := World.block_lt_of_cell? wr _ hv
            clear hv hfr
            go_wp2_with fail
            refine (implReadSome _ _ _ _ _ _ hh HF.out (by omega) hc hqw HR.out).mono ?_
            rintro e w2 ⟨rfl, hb2⟩
            have hF2 := hF.block (hb2.block _ hblk)
            obtain ⟨v, hv, hfr⟩ := hF2.at0 hlt
            have hF3 : Fill w2 w.heap.size 0 M k (fun j => Value.int .i64 ((l ++ [(rn : Int)]).getD j 0)) := hF2.cong (fun j hj => by rw [getD_app hll.out hj])
            have hB2 := hB.trans (hb2.mono hB.size)
            go_wp2
            go_roundw
            case rel => exact ⟨rfl, rfl, rfl, k + 1, (rm : Int), l ++ [(rn : Int)], by omega, by go_num, rfl, by omega, by omega, hD', hF3.set0 hlt (by rw [getD_last hll.out]), hB2.setCell (Nat.le_refl _) _⟩
            case measure => simp [intOf]; omega
        · obtain rfl : k = M := by omega
          have hll := dcN_len hD.out
          have HS := Lib.hid (show dc zs x (k : Int) = some (l, q) by rw [HD.out]; exact hD.out)
          have HLL := Lib.hid hll
          clear hll
          go_wp2
          go_ret3
          rw [HS.out]
          exact ⟨some ⟨w.heap.size, 0, none⟩, k, k, rfl, (fun h => by cases h), hF.own HLL.out (fun _ _ => rfl) (Nat.le_refl _), hB⟩
    · have HS := Lib.hid (show dc zs x N = none from if_neg (by rw [HL.out]; omega))
      go_enter Try.func43, Try.ntmps43
      go_wp2_with fail
      refine (implInYes _ _ _ _ (by omega) (by omega)).mono ?_
      rintro e w' ⟨rfl, rfl⟩
      go_wp2_with fail
      refine (implInNo _ _ _ _ (by omega)).mono ?_
      rintro e w' ⟨rfl, rfl⟩
      go_wp2_with fail
      go_ret3
      rw [HS.out]
      exact Out3.of (n := 0) (empty64 w w.heap.size (Nat.le_refl _)) ((Below.refl _ _).alloc (Nat.le_refl _) _)
  · have HS := Lib.hid (show dc zs x N = none from if_neg (by rw [HL.out]; omega))
    go_enter Try.func43, Try.ntmps43
    go_wp2_with fail
    refine (implInNo _ _ _ _ (by omega)).mono ?_
    rintro e w' ⟨rfl, rfl⟩
    go_wp2_with fail
    go_ret3
    rw [HS.out]
    exact Out3.of (n := 0) (empty64 w w.heap.size (Nat.le_refl _)) ((Below.refl _ _).alloc (Nat.le_refl _) _)

set_option maxRecDepth 100000 in
set_option maxHeartbeats 1600000 in
theorem specDec (a : Option Addr) (n c : Nat) (x N : Int) (zs : List Int) (w : World) (h : Has .u8 w w.heap.size a n zs) (hf : ∀ z ∈ zs, (Lit.int .u8 z).wf = true) (hn : n ≤ 134217728) (hx : (Lit.int .i64 x).wf = true) :
    Calls Try.prog 20 #[.slice a n c, .int .i64 x, .int .i64 N] w (Out3 .i64 w (dcR (dc zs x N)) (dcX (dc zs x N)) (dcY (dc zs x N))) := by
  have hl := h.1
  have HL := Lib.hid hl
  have HF := Lib.hid hf
  clear hf hl
  by_cases hN : 0 ≤ N ∧ N ≤ 100
  · obtain ⟨hN0, hN1⟩ := hN
    by_cases hX : 0 ≤ x ∧ x ≤ n
    · obtain ⟨hx0, hx1⟩ := hX
      obtain ⟨M, rfl⟩ := Int.eq_ofNat_of_zero_le hN0
      have hM : M ≤ 100 := by omega
      have HD := Lib.hid (show dc zs x (M : Int) = dcN zs x M by rw [dc, if_pos ⟨hN0, hN1, hx0, by rw [HL.out]; exact hx1⟩]; rfl)
      obtain ⟨i0, hi, hz0, hz1, hz2⟩ := info_parts infoI64
      have hby : i0.bytes ≤ 8 := by rw [hz2]; decide
      have he := empty64 w w.heap.size (Nat.le_refl _)
      have hbe : Below w.heap.size w (w.alloc (.cells #[] 3)) := (Below.refl _ _).alloc (Nat.le_refl _) _
      go_enter Try.func20, Try.ntmps20
      go_wp2_with fail
      refine (specInYes _ _ _ _ (by omega) (by omega)).mono ?_
      rintro e w' ⟨rfl, rfl⟩
      go_wp2_with fail
      refine (specInYes _ _ _ _ (by omega) (by omega)).mono ?_
      rintro e w' ⟨rfl, rfl⟩
      go_wp2_with fail
      go_loopw [1, 6, 7, 8, 9, 10] (fun at_ r0 r1 r2 v i wr => r0 = .slice none 0 0 ∧ r1 = .int .i64 0 ∧ r2 = .bool false ∧ ∃ (k : Nat) (q : Int) (l : List Int), k ≤ M ∧ i = .int .i64 k ∧ at_ = .int .i64 q ∧ 0 ≤ q ∧ q ≤ n ∧ Hid (dcN zs x k = some (l, q)) ∧ wr.ownsRow w.heap.size 3 1 v k (l.map (.int .i64)) ∧ Below w.heap.size w wr) (fun _ _ _ _ _ i _ => M - (intOf i).toNat)
      case atStart => exact ⟨rfl, rfl, rfl, 0, x, [], Nat.zero_le _, rfl, rfl, hx0, hx1, rfl, he, hbe⟩
      case round =>
        clear he hbe
        obtain ⟨rfl, rfl, rfl, k, q, l, hk, rfl, rfl, hq0, hq1, hD, ho, hB⟩ := hrel
        have hsz := hB.size
        by_cases hlt : k < M
        · have hh := (h.below hB).mono hB.size
          have hqw : (Lit.int .i64 q).wf = true := WalkArith.wf_i64 (by omega)
          rcases hr : rdAt zs q with _ | ⟨rn, rm⟩
          · have HR := Lib.hid hr
            have HS := Lib.hid (show dc zs x (M : Int) = none by rw [HD.out]; exact dcN_none (dcN_stop hD.out hr) M (by omega))
            clear hr
            go_wp2_with fail
            refine (specReadNone _ _ _ _ _ _ _ hh HF.out (by omega) hqw HR.out).mono ?_
            rintro e w2 ⟨rfl, rfl⟩
            go_wp2
            go_ret3
            have e1 := HS.out
            rw [e1]
            exact Out3.of (n := 0) (empty64 _ _ hB.size) (hB.alloc hB.size _)
          · obtain ⟨r1, r2, r3, r4⟩ := rdAt_bd hr
            rw [HL.out] at r4
            have HR := Lib.hid hr
            have hD' : Hid (dcN zs x (k + 1) = some (l ++ [(rn : Int)], (rm : Int))) := dcN_step hD.out hr
            clear hr
            have hn1 := has_new .i64 wr 3 (rn : Int)
            have ho' := ho.alloc (.cells #[.int .i64 (rn : Int)] 3)
            have hb' := hB.alloc hsz (.cells #[.int .i64 (rn : Int)] 3)
            have hlo' : w.heap.size ≤ (wr.alloc (.cells #[.int .i64 (rn : Int)] 3)).heap.size := by simp; omega
            have hbnd : k + 1 ≤ 1073741824 := by omega
            go_wp2_with fail
            refine (specReadSome _ _ _ _ _ _ _ hh HF.out (by omega) hqw HR.out).mono ?_
            rintro e w2 ⟨rfl, rfl⟩
            go_wp2_with (at_builtin; refine wpList_app rfl (.tmp 41) (.tmp 43) 55 rfl w.heap.size 3 i0 Try.underlying55 hi hz0 hz1 hby _ l k rfl ho' _ 1 1 [(rn : Int)] rfl (fun h => by cases h) hn1 hbnd hlo' ?_; intro v2 w2 ho2 hg2 _)
            have hb2 := hb'.grown hg2 hlo' (fun g hg => (ho.lt g hg).1)
            go_roundw
            case rel => exact ⟨rfl, rfl, rfl, k + 1, (rm : Int), l ++ [(rn : Int)], by omega, by go_num, rfl, by omega, by omega, hD', ho2, hb2⟩
            case measure => simp [intOf]; omega
        · obtain rfl : k = M := by omega
          have HS := Lib.hid (show dc zs x (k : Int) = some (l, q) by rw [HD.out]; exact hD.out)
          have HO := Lib.hid ho
          clear ho
          go_wp2
          go_ret3
          rw [HS.out]
          exact Out3.of HO.out hB
    · have HS := Lib.hid (show dc zs x N = none from if_neg (by rw [HL.out]; omega))
      go_enter Try.func20, Try.ntmps20
      go_wp2_with fail
      refine (specInYes _ _ _ _ (by omega) (by omega)).mono ?_
      rintro e w' ⟨rfl, rfl⟩
      go_wp2_with fail
      refine (specInNo _ _ _ _ (by omega)).mono ?_
      rintro e w' ⟨rfl, rfl⟩
      go_wp2_with fail
      go_ret3
      rw [HS.out]
      exact Out3.of (n := 0) (empty64 w w.heap.size (Nat.le_refl _)) ((Below.refl _ _).alloc (Nat.le_refl _) _)
  · have HS := Lib.hid (show dc zs x N = none from if_neg (by rw [HL.out]; omega))
    go_enter Try.func20, Try.ntmps20
    go_wp2_with fail
    refine (specInNo _ _ _ _ (by omega)).mono ?_
    rintro e w' ⟨rfl, rfl⟩
    go_wp2_with fail
    go_ret3
    rw [HS.out]
    exact Out3.of (n := 0) (empty64 w w.heap.size (Nat.le_refl _)) ((Below.refl _ _).alloc (Nat.le_refl _) _)
end Go.Proofs.Ytoicmmandniagaa
