
/- The functions that append encodings, by the program and by the model. -/
import Derived.Test.YtpfjjfbheliinaaVarint
import Derived.Test.YtpfjjfbheliinaaIntS
namespace Go.Proofs.Ytpfjjfbheliinaa
open Go.ChangeShapes Go.WideShapes Go.ChangeAt Go.RowKit
set_option linter.unusedVariables false
/-- A call hands back a new row of bytes, and changes nothing that was there. -/
def OutB (w : World) (R : List Int) (e : Ending) (w' : World) : Prop :=
  ∃ v, e = .returned v ∧ w'.ownsRow w.heap.size 5 1 v R.length (R.map (.int .u8)) ∧ Below w.heap.size w w'
theorem OutB.of {w w' : World} {R : List Int} {v : Value} {n : Nat} (h : w'.ownsRow w.heap.size 5 1 v n (R.map (.int .u8))) (hb : Below w.heap.size w w') : OutB w R (.returned v) w' := by
  have hl : n = R.length := by have := h.1; simp at this; omega
  subst hl
  exact ⟨v, rfl, h, hb⟩
theorem OutB.r {w w' : World} {R : List Int} {e : Ending} (h : OutB w R e w') : OutR .u8 w R e w' := by
  obtain ⟨v, rfl, ho, hb⟩ := h
  exact OutR.of ho hb
theorem own_empty (w : World) (e : TypeId) : (w.alloc (.cells #[] e)).ownsRow w.heap.size e 1 (.slice (some ⟨w.heap.size, 0, none⟩) 0 0) 0 (([] : List Int).map (.int .u8)) := own_lit w e [] (by simp)

set_option maxRecDepth 100000 in
set_option maxHeartbeats 800000 in
theorem cloneBytes (ad : Addr) (n c : Nat) (bs : List Int) (w : World) (h : Has .u8 w w.heap.size (some ad) n bs) (hn : n ≤ 268435456) :
    Calls Try.prog 180 #[.slice (some ad) n c] w (OutB w bs) := by
  obtain ⟨i0, hi, hz0, hz1, hz2⟩ := info_parts infoU8
  have hnil : ∀ W, (binOp .eql 63 (.slice (some ad) n c) (.slice none 0 0)).run Try.prog W = .ok (.bool false) W := fun W => Lib.run_eql_slice_nil W _ _ _ _ _ _ _ Try.underlying63
  have ha := h.alloc (.cells #[] 5)
  have ho := own_empty w 5
  have hb : Below w.heap.size w (w.alloc (.cells #[] 5)) := (Below.refl _ _).alloc (Nat.le_refl _) _
  go_enter Try.func180, Try.ntmps180
  go_wp2_with (at_builtin; refine wpList_app rfl (.tmp 5) (.tmp 6) 63 rfl w.heap.size 5 i0 Try.underlying63 hi hz0 hz1 (by rw [hz2]; decide) _ [] 0 rfl ho (some ad) n c bs rfl (fun h => by cases h) ha (by omega) hb.size ?_; intro v1 w1 ho1 hg1 _)
  have hb1 := hb.grown hg1 hb.size (fun g hg => by cases hg; exact Nat.le_refl _)
  go_ret
  exact OutB.of (by simpa using ho1) hb1

set_option maxRecDepth 100000 in
set_option maxHeartbeats 800000 in
theorem cloneNil (w : World) : Calls Try.prog 180 #[.slice none 0 0] w (OutB w []) := by
  have hnil : ∀ W, (binOp .eql 63 (.slice none 0 0) (.slice none 0 0)).run Try.prog W = .ok (.bool true) W := fun W => Lib.run_eql_slice_nil W _ _ _ _ _ _ _ Try.underlying63
  go_enter Try.func180, Try.ntmps180
  go_wp2
  go_ret
  exact OutB.of (n := 0) (by simpa using World.ownsRow_nil w w.heap.size 5 1) (Below.refl _ _)

theorem cloneAny (a : Option Addr) (n c : Nat) (bs : List Int) (w : World) (h : Has .u8 w w.heap.size a n bs) (hc0 : a = none → c = 0) (hn : n ≤ 268435456) :
    Calls Try.prog 180 #[.slice a n c] w (OutB w bs) := by
  rcases a with _ | ad
  · have h0 : n = 0 := by
      rcases Nat.eq_zero_or_pos n with h0 | h0
      · exact h0
      · obtain ⟨b, off, hh, _⟩ := h.2 h0
        cases hh
    subst h0
    obtain rfl : bs = [] := List.eq_nil_of_length_eq_zero h.1
    obtain rfl := hc0 rfl
    exact cloneNil w
  · exact cloneBytes ad n c bs w h hn

set_option maxRecDepth 100000 in
set_option maxHeartbeats 800000 in
theorem implVarint (a : Option Addr) (n c : Nat) (x : Int) (bs : List Int) (w : World) (h : Has .u8 w w.heap.size a n bs) (hc0 : a = none → c = 0) (hn : n ≤ 268435456) :
    Calls Try.prog 154 #[.slice a n c, .int .i64 x] w (OutB w (bs ++ vb x)) := by
  have HC := Lib.hid hc0
  clear hc0
  have hl := h.1
  have HL := Lib.hid hl
  clear hl
  go_enter Try.func154, Try.ntmps154
  go_wp2_with fail
  refine (cloneAny _ _ _ _ _ h HC.out hn).mono ?_
  rintro e w1 ⟨v, rfl, hown, hb⟩
  have hlo := hb.size
  go_wp2_with fail
  refine (addVarint _ _ _ w.heap.size _ _ hown hlo (by rw [HL.out]; omega)).mono ?_
  rintro e w2 ⟨v2, rfl, hown2, hb2⟩
  go_wp2_with fail
  go_ret
  exact OutB.of hown2 (hb.trans hb2)

set_option maxRecDepth 100000 in
set_option maxHeartbeats 1600000 in
theorem specVarint (a : Option Addr) (n c : Nat) (x : Int) (bs : List Int) (w : World) (h : Has .u8 w w.heap.size a n bs) (hc0 : a = none → c = 0) (hn : n ≤ 268435456) :
    Calls Try.prog 145 #[.slice a n c, .int .i64 x] w (OutB w (bs ++ vb x)) := by
  obtain ⟨i0, hi, hz0, hz1, hz2⟩ := info_parts infoU8
  have ha := h.alloc (.cells #[] 5)
  have hl := h.1
  have HL := Lib.hid hl
  clear hl
  have HC := Lib.hid hc0
  clear hc0
  have ho := own_empty w 5
  have hb : Below w.heap.size w (w.alloc (.cells #[] 5)) := (Below.refl _ _).alloc (Nat.le_refl _) _
  go_enter Try.func145, Try.ntmps145
  go_wp2_with (at_builtin; refine wpList_app rfl (.tmp 6) (.tmp 7) 63 rfl w.heap.size 5 i0 Try.underlying63 hi hz0 hz1 (by rw [hz2]; decide) _ [] 0 rfl ho a n c bs rfl HC.out ha (by omega) hb.size ?_; intro v1 w1 ho1 hg1 _)
  have hb1 := hb.grown hg1 hb.size (fun g hg => by cases hg; exact Nat.le_refl _)
  rw [Nat.zero_add, List.nil_append] at ho1
  clear ho ha hg1
  by_cases hin : 0 ≤ x ∧ x ≤ 1000000000000
  · obtain ⟨h0, h1⟩ := hin
    obtain ⟨N, rfl⟩ := Int.eq_ofNat_of_zero_le h0
    have hN : N ≤ 1000000000000 := by omega
    have HV := Lib.hid (show vb (N : Int) = vlist N from vb_in hN)
    obtain ⟨l6, l1⟩ := vlist_len6 hN
    obtain ⟨q, hq⟩ : ∃ q, q = (vlist N).length := ⟨_, rfl⟩
    rw [← hq] at l6 l1
    have HQ := Lib.hid hq
    clear hq
    obtain ⟨T, hT⟩ : ∃ T, T = bs ++ vlist N := ⟨_, rfl⟩
    have hTl : T.length = n + q := by rw [hT, List.length_append, ← HQ.out, HL.out]
    have HT := Lib.hid hT
    have HTl := Lib.hid hTl
    have HO := Lib.hid ho1
    clear hT hTl ho1
    refine (specInYes _ _ _ _ (by omega) (by omega)).mono ?_
    rintro e w' ⟨rfl, rfl⟩
    go_wp2_with fail
    go_loopw [5, 1] (fun s i wr => ∃ (m M : Nat) (zs : List Int), m ≤ 1000000000000 ∧ i = .int .i64 m ∧ M ≤ n + 6 ∧ Hid (zs ++ vlist m = T) ∧ wr.ownsRow w.heap.size 5 1 s M (zs.map (.int .u8)) ∧ Below w.heap.size w wr) (fun _ i _ => (intOf i).toNat)
    case atStart => exact ⟨N, n, bs, hN, rfl, by omega, HT.out.symm, HO.out, hb1⟩
    case round =>
      clear HO hb1
      obtain ⟨m, M, zs, hm, rfl, hM, hz, ho, hb⟩ := hrel
      have hsz := hb.size
      by_cases hlt : 128 ≤ m
      · have hlt' : (127 : Int) < (m : Int) := by omega
        have hdv := (vlist_len6 (n := m / 128) (by omega)).2
        obtain ⟨y, hy⟩ : ∃ y : Int, y = ((m % 128 + 128 : Nat) : Int) := ⟨_, rfl⟩
        have y1 : 128 ≤ y := by omega
        have y2 : y ≤ 255 := by omega
        have hz' : Hid ((zs ++ [y]) ++ vlist (m / 128) = T) := by rw [← hz.out, vlist_big hlt, hy]; simp [Hid]
        have hMl : M + 1 + (vlist (m / 128)).length = n + q := by
          have e := hz'.out
          have := congrArg List.length e
          simp only [List.length_append, List.length_cons, List.length_nil] at this
          have h1 := ho.1
          simp at h1
          rw [HTl.out] at this
          omega
        have hM1 : M + 1 ≤ n + 6 := by omega
        have ey : bits .or .i64 (bits .and .i64 (m : Int) 127) 128 = y := by rw [hy, and127, bits_or128 _ (by omega)]
        have ew : y % 256 = y := by omega
        have hn1 := has_new .u8 wr 5 y
        have ho' := ho.alloc (.cells #[.int .u8 y] 5)
        have hb' := hb.alloc (by omega) (.cells #[.int .u8 y] 5)
        have hlo' : w.heap.size ≤ (wr.alloc (.cells #[.int .u8 y] 5)).heap.size := by simp; omega
        clear hdv hMl hy
        go_wp2_with (at_builtin; refine wpList_app rfl (.tmp 15) (.tmp 20) 63 rfl w.heap.size 5 i0 Try.underlying63 hi hz0 hz1 (by rw [hz2]; decide) _ zs M rfl ho' _ 1 1 [y] rfl (fun h => by cases h) hn1 (by omega) hlo' ?_; intro v2 w2 ho2 hg2 _)
        have hb2 := hb'.grown hg2 hlo' (fun g hg => (ho.lt g hg).1)
        go_roundw
        case rel => exact ⟨m / 128, M + 1, zs ++ [y], by omega, by go_num, hM1, hz', ho2, hb2⟩
        case measure => simp [intOf]; omega
      · have hlt' : (m : Int) ≤ 127 := by omega
        obtain ⟨y, hy⟩ : ∃ y : Int, y = (m : Int) := ⟨_, rfl⟩
        have y1 : 0 ≤ y := by omega
        have y2 : y ≤ 127 := by omega
        have hz' : Hid (zs ++ [y] = T) := by rw [← hz.out, vlist_small (by omega), hy]; rfl
        have hMl : M + 1 = n + q := by
          have e := hz'.out
          have := congrArg List.length e
          simp only [List.length_append, List.length_cons, List.length_nil] at this
          have h1 := ho.1
          simp at h1
          rw [HTl.out] at this
          omega
        have HM := Lib.hid hMl
        have ew : y % 256 = y := by omega
        have hn1 := has_new .u8 wr 5 y
        have ho' := ho.alloc (.cells #[.int .u8 y] 5)
        have hb' := hb.alloc (by omega) (.cells #[.int .u8 y] 5)
        have hlo' : w.heap.size ≤ (wr.alloc (.cells #[.int .u8 y] 5)).heap.size := by simp; omega
        rw [← hy]
        clear hMl hy hlt
        go_wp2_with (at_builtin; refine wpList_app rfl (.tmp 24) (.tmp 27) 63 rfl w.heap.size 5 i0 Try.underlying63 hi hz0 hz1 (by rw [hz2]; decide) _ zs M rfl ho' _ 1 1 [y] rfl (fun h => by cases h) hn1 (by omega) hlo' ?_; intro v2 w2 ho2 hg2 _)
        have hb2 := hb'.grown hg2 hlo' (fun g hg => (ho.lt g hg).1)
        go_ret
        exact OutB.of (n := M + 1) (by rw [HV.out, ← HT.out, ← hz'.out]; exact ho2) hb2
  · have hv : vb x = [] := if_neg hin
    have HV := Lib.hid hv
    have HO := Lib.hid ho1
    clear hv ho1
    refine (specInNo _ _ _ _ (by omega)).mono ?_
    rintro e w' ⟨rfl, rfl⟩
    go_wp2_with fail
    go_ret
    exact OutB.of (n := n) (by rw [HV.out, List.append_nil]; exact HO.out) hb1
end Go.Proofs.Ytpfjjfbheliinaa
