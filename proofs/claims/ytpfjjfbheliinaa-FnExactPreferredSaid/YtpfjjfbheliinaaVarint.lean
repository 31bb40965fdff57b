
/- AppendVarint, by the program and by the model. -/
import Derived.Test.YtpfjjfbheliinaaVarMath
import Derived.Test.YtpfjjfbheliinaaByteS
import Derived.Test.YtpfjjfbheliinaaApp
import Derived.Test.YtpfjjfbheliinaaInR
import Derived.WalkSpells
namespace Go.Proofs.Ytpfjjfbheliinaa
open Go.ChangeShapes Go.WideShapes Go.ChangeAt Go.RowKit
set_option linter.unusedVariables false

set_option maxRecDepth 100000 in
set_option maxHeartbeats 1600000 in
theorem addVarint (v : Value) (n : Int) (L lo : Nat) (bs : List Int) (w : World) (hown : w.ownsRow lo 5 1 v L (bs.map (.int .u8))) (hlo : lo ≤ w.heap.size) (hL : L ≤ 1073741800) :
    Calls Try.prog 151 #[v, .int .i64 n] w fun e w' => ∃ v', e = .returned v' ∧ w'.ownsRow lo 5 1 v' (L + (vb n).length) ((bs ++ vb n).map (.int .u8)) ∧ Below lo w w' := by
  by_cases h0 : 0 ≤ n
  · by_cases h1 : n ≤ 1000000000000
    · have d1 : decide (n ≤ 1000000000000) = true := by simp; omega
      obtain ⟨N, rfl⟩ := Int.eq_ofNat_of_zero_le h0
      have hN : N ≤ 1000000000000 := by omega
      rw [show vb (N : Int) = vlist N from vb_in hN]
      obtain ⟨l6, l1⟩ := vlist_len6 hN
      obtain ⟨q, hq⟩ : ∃ q, q = (vlist N).length := ⟨_, rfl⟩
      rw [← hq] at l6 l1 ⊢
      have HQ := Lib.hid hq
      clear hq
      obtain ⟨T, hT⟩ : ∃ T, T = bs ++ vlist N := ⟨_, rfl⟩
      have hTl : T.length = L + q := by rw [hT, List.length_append, ← HQ.out]; have := hown.1; simp at this; omega
      rw [← hT]
      have HT := Lib.hid hT
      have HTl := Lib.hid hTl
      clear hT hTl
      have HO := Lib.hid hown
      clear hown
      obtain ⟨i0, hi, hz0, hz1, hz2⟩ := info_parts infoU8
      go_enter Try.func151, Try.ntmps151
      go_wp2_with fail
      refine (implInYes _ _ _ _ (by omega) (by omega)).mono ?_
      rintro e w' ⟨rfl, rfl⟩
      go_wp2_with fail
      go_loopw [0, 1] (fun s i wr => ∃ (m M : Nat) (zs : List Int), m ≤ 1000000000000 ∧ i = .int .i64 m ∧ M ≤ L + 6 ∧ Hid (zs ++ vlist m = T) ∧ wr.ownsRow lo 5 1 s M (zs.map (.int .u8)) ∧ Below lo w wr) (fun _ i _ => (intOf i).toNat)
      case atStart => exact ⟨N, L, bs, hN, rfl, by omega, HT.out.symm, HO.out, Below.refl _ _⟩
      case round =>
        obtain ⟨m, M, zs, hm, rfl, hM, hz, ho, hb⟩ := hrel
        have hsz := hb.size
        by_cases hlt : 128 ≤ m
        · have hlt' : (128 : Int) ≤ (m : Int) := by omega
          have hdv := (vlist_len6 (n := m / 128) (by omega)).2
          obtain ⟨y, hy⟩ : ∃ y : Int, y = ((m % 128 + 128 : Nat) : Int) := ⟨_, rfl⟩
          have y1 : 128 ≤ y := by omega
          have y2 : y ≤ 255 := by omega
          have hz' : Hid ((zs ++ [y]) ++ vlist (m / 128) = T) := by rw [← hz.out, vlist_big hlt, hy]; simp [Hid]
          have hMl : M + 1 + (vlist (m / 128)).length = L + q := by
            have e := hz'.out
            have := congrArg List.length e
            simp only [List.length_append, List.length_cons, List.length_nil] at this
            have h1 := ho.1
            simp at h1
            rw [HTl.out] at this
            omega
          have hM1 : M + 1 ≤ L + 6 := by omega
          have ey : (m : Int) % 128 + 128 = y := by omega
          have ew : y % 256 = y := by omega
          have hn1 := has_new .u8 wr 5 y
          have ho' := ho.alloc (.cells #[.int .u8 y] 5)
          have hb' := hb.alloc (by omega) (.cells #[.int .u8 y] 5)
          have hlo' : lo ≤ (wr.alloc (.cells #[.int .u8 y] 5)).heap.size := by simp; omega
          clear hdv hMl hy
          go_wp2_with (at_builtin; refine wpList_app rfl (.tmp 13) (.tmp 18) 63 rfl lo 5 i0 Try.underlying63 hi hz0 hz1 (by rw [hz2]; decide) _ zs M rfl ho' _ 1 1 [y] rfl (fun h => by cases h) hn1 (by omega) hlo' ?_; intro v2 w2 ho2 hg2 _)
          have hb2 := hb'.grown hg2 hlo' (fun g hg => (ho.lt g hg).1)
          go_roundw
          case rel => exact ⟨m / 128, M + 1, zs ++ [y], by omega, by go_num, hM1, hz', ho2, hb2⟩
          case measure => simp [intOf]; omega
        · have hlt' : (m : Int) < 128 := by omega
          obtain ⟨y, hy⟩ : ∃ y : Int, y = (m : Int) := ⟨_, rfl⟩
          have y1 : 0 ≤ y := by omega
          have y2 : y < 128 := by omega
          have hz' : Hid (zs ++ [y] = T) := by rw [← hz.out, vlist_small (by omega), hy]; rfl
          have hMl : M + 1 = L + q := by
            have e := hz'.out
            have := congrArg List.length e
            simp only [List.length_append, List.length_cons, List.length_nil] at this
            have h1 := ho.1
            simp at h1
            rw [HTl.out] at this
            omega
          have HM := Lib.hid hMl
          have hM1 : M + 1 ≤ L + 6 := by omega
          have ew : y % 256 = y := by omega
          have hn1 := has_new .u8 wr 5 y
          have ho' := ho.alloc (.cells #[.int .u8 y] 5)
          have hb' := hb.alloc (by omega) (.cells #[.int .u8 y] 5)
          have hlo' : lo ≤ (wr.alloc (.cells #[.int .u8 y] 5)).heap.size := by simp; omega
          rw [← hy]
          clear hMl hy hlt
          go_wp2_with (at_builtin; refine wpList_app rfl (.tmp 20) (.tmp 23) 63 rfl lo 5 i0 Try.underlying63 hi hz0 hz1 (by rw [hz2]; decide) _ zs M rfl ho' _ 1 1 [y] rfl (fun h => by cases h) hn1 (by omega) hlo' ?_; intro v2 w2 ho2 hg2 _)
          have hb2 := hb'.grown hg2 hlo' (fun g hg => (ho.lt g hg).1)
          go_ret
          exact ⟨v2, rfl, by rw [← HM.out, ← hz'.out]; exact ho2, hb2⟩
    · have hv : vb n = [] := if_neg (by omega)
      have d1 : decide (n ≤ 1000000000000) = false := by simp; omega
      rw [hv]
      clear hv
      have HO := Lib.hid hown
      clear hown
      go_enter Try.func151, Try.ntmps151
      go_wp2_with fail
      refine (implInNo _ _ _ _ (by omega)).mono ?_
      rintro e w' ⟨rfl, rfl⟩
      go_wp2_with fail
      go_ret
      exact ⟨v, rfl, by simpa using HO.out, Below.refl _ _⟩
  · have hv : vb n = [] := if_neg (by omega)
    have d1 : n < 0 := by omega
    rw [hv]
    clear hv
    have HO := Lib.hid hown
    clear hown
    go_enter Try.func151, Try.ntmps151
    go_wp2_with fail
    refine (implInNo _ _ _ _ (by omega)).mono ?_
    rintro e w' ⟨rfl, rfl⟩
    go_wp2_with fail
    go_ret
    exact ⟨v, rfl, by simpa using HO.out, Below.refl _ _⟩
end Go.Proofs.Ytpfjjfbheliinaa
