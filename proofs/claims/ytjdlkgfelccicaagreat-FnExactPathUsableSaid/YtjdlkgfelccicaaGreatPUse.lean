
/- slices.Concat of slices of integers. -/
import Derived.Test.YtjdlkgfelccicaaGreatRows
import Derived.Test.YtjdlkgfelccicaaGreatInfo
import Derived.Test.YtjdlkgfelccicaaGreatApp
import Derived.Test.YtjdlkgfelccicaaGreatModOps
import Derived.Test.YtjdlkgfelccicaaGreatMem
import Derived.Handy
import Derived.Test.YtjdlkgfelccicaaGreatVHop
import Derived.Test.YtjdlkgfelccicaaGreatCTopology
import Derived.Test.YtjdlkgfelccicaaGreatInR
import Derived.Deep.RegionHeld3
import Derived.Test.YtjdlkgfelccicaaGreatPart
import Derived.Test.YtjdlkgfelccicaaGreatEncable
import Derived.Test.YtjdlkgfelccicaaGreatNPathPart
import Derived.Test.YtjdlkgfelccicaaGreatCPath
import Derived.Test.YtjdlkgfelccicaaGreatOPathPart
import Derived.Test.YtjdlkgfelccicaaGreatDiff
import Derived.Test.YtjdlkgfelccicaaGreatSeen
namespace Go.Proofs.YtjdlkgfelccicaaGreat
open Go.ChangeShapes Go.WideShapes Go.ChangeAt Go.RowKit
set_option linter.unusedVariables false

set_option maxRecDepth 100000 in
set_option maxHeartbeats 800000 in
theorem growNil (n : Nat) (w : World) (h0 : 0 < n) (h1 : n ≤ 1073741824) :
    Calls Tryz.prog 134 #[.slice none 0 0, .int .i64 n] w fun e w' => ∃ v, e = .returned v ∧ w'.ownsRow w.heap.size 3 1 v 0 [] ∧ Below w.heap.size w w' := by
  obtain ⟨i0, hi, hz0, hz1, hz2⟩ := info_parts infoI64
  have happ := Lib.run_append_nil_zeros (P := Tryz.prog) w 49 3 49 3 i0 (.int .i64 0) .i64 .i64 Tryz.underlying49 Tryz.underlying3 hi hz0 n h0 (by omega) (by omega) (by rw [hz2]; omega)
  obtain ⟨cap, hcap⟩ : ∃ cap, cap = grownCap w n 0 3 := ⟨_, rfl⟩
  have hge : n ≤ cap := by rw [hcap]; exact grownCap_ge w n 0 _
  have hle : cap ≤ maxLen := by rw [hcap]; exact grownCap_le_maxLen w n 0 _ (by unfold maxLen; omega)
  rw [← hcap] at happ
  obtain ⟨C, hC⟩ : ∃ C, C = Builtin.zeroCells (Value.int .i64 0).cells n ++ Builtin.zeroCells (Value.int .i64 0).cells (cap - n) := ⟨_, rfl⟩
  have hCs : C.size = cap * 1 := by rw [hC]; simp [size_zeroCells, Value.cells]; omega
  rw [← hC] at happ
  have HA := Lib.hid happ
  unfold maxLen at hle
  clear happ hC hcap
  go_enter Tryz.func134, Tryz.ntmps134
  go_wp2_with (at_builtin; refine Lib.wpList_append_run _ rfl (.tmp 20) (.tmp 21) 49 3 rfl _ _ rfl rfl _ _ HA.out ?_)
  go_ret
  refine ⟨_, rfl, ⟨rfl, .inr ⟨w.heap.size, cap, C, rfl, Nat.le_refl _, heap_alloc_new w.drew _, Nat.zero_le _, by unfold maxLen; omega, hCs, by simp⟩⟩, ?_⟩
  exact ((Below.refl _ _).alloc (Nat.le_refl _) _).drew

theorem flat_succ (P : List (List Int)) (k : Nat) (h : k < P.length) : (P.take (k + 1)).flatten = (P.take k).flatten ++ P.getD k [] := by
  rw [List.take_succ_eq_append_getElem h, List.flatten_append]
  simp [List.getD_eq_getElem?_getD, h]
theorem flat_len (P : List (List Int)) (k : Nat) : (P.take k).flatten.length ≤ P.flatten.length := by
  have h : P.flatten = (P.take k).flatten ++ (P.drop k).flatten := by rw [← List.flatten_append, List.take_append_drop]
  rw [h, List.length_append]
  omega

/-- Parts of a slice of slices. -/
def Parts (w : World) (b off : Nat) (P : List (List Int)) : Prop :=
  b < w.heap.size ∧ ∀ j, j < P.length → ∃ A n c, w.cell? ⟨b, off + j, none⟩ = some (.slice A n c) ∧ (A = none → c = 0) ∧ Has .i64 w w.heap.size A n (P.getD j [])
theorem Parts.below {w w' : World} {b off : Nat} {P : List (List Int)} (h : Parts w b off P) (hb : Below w.heap.size w w') : Parts w' b off P :=
  ⟨Nat.lt_of_lt_of_le h.1 hb.size, fun j hj => by
    obtain ⟨A, n, c, h1, h2, h3⟩ := h.2 j hj
    exact ⟨A, n, c, by rw [hb.cell h.1]; exact h1, h2, h3.next hb⟩⟩

set_option maxRecDepth 100000 in
set_option maxHeartbeats 1600000 in
theorem concatInts (b off cap : Nat) (P : List (List Int)) (w : World) (h : Parts w b off P) (hP : P.length ≤ 8) (h0 : 0 < P.flatten.length) (h1 : P.flatten.length ≤ 1073741824) :
    Calls Tryz.prog 133 #[.slice (some ⟨b, off, none⟩) P.length cap] w fun e w' => ∃ v, e = .returned v ∧ w'.ownsRow w.heap.size 3 1 v P.flatten.length (P.flatten.map (.int .i64)) ∧ Below w.heap.size w w' := by
  obtain ⟨m, hm⟩ : ∃ m, m = P.length := ⟨_, rfl⟩
  rw [← hm] at hP ⊢
  have HM := Lib.hid hm
  clear hm
  obtain ⟨N, hN⟩ : ∃ N, N = P.flatten.length := ⟨_, rfl⟩
  rw [← hN] at h0 h1 ⊢
  have HN := Lib.hid hN
  clear hN
  go_enter Tryz.func133, Tryz.ntmps133
  go_wp2
  go_loop [3, 11] (fun s i => ∃ k z : Nat, k ≤ m ∧ i = .int .i64 k ∧ Hid (z = (P.take k).flatten.length) ∧ s = .int .i64 z) (fun _ i => m - (intOf i).toNat)
  case atStart => exact ⟨0, 0, Nat.zero_le _, rfl, by simp [Hid], rfl⟩
  case round =>
    obtain ⟨k, z, hk, rfl, hz, rfl⟩ := hrel
    have hzN : z ≤ N := by rw [hz.out, HN.out]; exact flat_len P k
    by_cases hlt : k < m
    · obtain ⟨A, n, c, hc, hc0, hh⟩ := h.2 k (by rw [← HM.out]; exact hlt)
      have hs := flat_succ P k (by rw [← HM.out]; exact hlt)
      have hz' : Hid (z + n = (P.take (k + 1)).flatten.length) := by rw [hs, List.length_append, ← hz.out, hh.1]; rfl
      have hzN' : z + n ≤ N := by rw [hz'.out, HN.out]; exact flat_len P _
      clear hs
      go_wp2
      go_round
      case rel => exact ⟨k + 1, z + n, by omega, by go_num, hz', by go_num⟩
      case measure => simp [intOf]; omega
    · obtain rfl : k = m := by omega
      have hzz : z = N := by rw [hz.out, HN.out, HM.out, List.take_length]
      subst hzz
      go_wp2_with fail
      refine (growNil z w h0 h1).mono ?_
      rintro e w1 ⟨v, rfl, hown, hb1⟩
      go_wp2_with fail
      go_loopw [6, 27] (fun v i wr => ∃ k' z' : Nat, k' ≤ k ∧ i = .int .i64 k' ∧ z' ≤ z ∧ Hid (z' = (P.take k').flatten.length) ∧ wr.ownsRow w.heap.size 3 1 v z' ((P.take k').flatten.map (.int .i64)) ∧ Below w.heap.size w wr) (fun _ i _ => k - (intOf i).toNat)
      case atStart => exact ⟨0, 0, Nat.zero_le _, rfl, Nat.zero_le _, by simp [Hid], by simpa using hown, hb1⟩
      case round =>
        clear hown hb1
        obtain ⟨k', z', hk', rfl, hle, hz', hown, hb⟩ := hrel
        by_cases hlt' : k' < k
        · obtain ⟨A, n, c, hc, hc0, hh⟩ := (h.below hb).2 k' (by rw [← HM.out]; exact hlt')
          have hs := flat_succ P k' (by rw [← HM.out]; exact hlt')
          have hz'' : Hid (z' + n = (P.take (k' + 1)).flatten.length) := by rw [hs, List.length_append, ← hz'.out, hh.1]; rfl
          have hzN' : z' + n ≤ z := by rw [hz''.out, HN.out]; exact flat_len P _
          have hs' := Lib.hid hs
          clear hs
          obtain ⟨i0, hi, hz0, hz1, hz2⟩ := info_parts infoI64
          have hlo := hb.size
          go_wp2_with (at_builtin; refine wpList_app rfl (.tmp 31) (.tmp 32) 49 rfl w.heap.size 3 i0 Tryz.underlying49 hi hz0 hz1 (by rw [hz2]; decide) _ _ z' rfl hown A n c _ rfl hc0 hh (by omega) hlo ?_; intro v' w2 hown' hgr _)
          have hb2 := hb.grown hgr hlo (fun g hg => (hown.lt g hg).1)
          go_roundw
          case rel => exact ⟨k' + 1, z' + n, by omega, by go_num, hzN', hz'', by rw [hs'.out]; exact hown', hb2⟩
          case measure => simp [intOf]; omega
        · obtain rfl : k' = k := by omega
          have hfin : (P.take k').flatten = P.flatten := by rw [HM.out, List.take_length]
          obtain rfl : z' = z := by rw [hz'.out, hfin]; exact HN.out.symm
          rw [hfin] at hown
          have HO := Lib.hid hown
          clear hown hfin
          go_wp2
          go_ret
          exact ⟨_, rfl, HO.out, hb⟩
end Go.Proofs.YtjdlkgfelccicaaGreat
namespace Go.Proofs.YtjdlkgfelccicaaGreat
open Go.ChangeShapes Go.WideShapes Go.ChangeAt Go.RowKit
set_option linter.unusedVariables false
def digN (zs : List Int) : Nat → Int
  | 0 => 7
  | k + 1 => (digN zs k * 1000003 + modV (zs.getD k 0) 2147483647 + 11) % 2147483647
theorem digN_bd (zs : List Int) (k : Nat) : 0 ≤ digN zs k ∧ digN zs k ≤ 2147483646 := by
  cases k with
  | zero => simp [digN]
  | succ k => simp only [digN]; omega
theorem modV_bd (x : Int) : 0 ≤ modV x 2147483647 ∧ modV x 2147483647 ≤ 2147483646 := by
  have : modV x 2147483647 = x % 2147483647 := if_pos (by omega)
  omega
theorem modV_of (x : Int) : modV x 2147483647 = x % 2147483647 := if_pos (by omega)
theorem fit_at {zs : List Int} (h : ∀ z ∈ zs, (Lit.int .i64 z).wf = true) {i : Nat} (hi : i < zs.length) : -9223372036854775808 ≤ zs.getD i 0 ∧ zs.getD i 0 ≤ 9223372036854775807 := by
  have : zs.getD i 0 ∈ zs := by
    rw [List.getD_eq_getElem?_getD, List.getElem?_eq_getElem hi]
    exact List.getElem_mem _
  exact i64_of (h _ this)

set_option maxRecDepth 100000 in
set_option maxHeartbeats 800000 in
theorem specDigest (a : Option Addr) (n c B : Nat) (zs : List Int) (w : World) (h : Has .i64 w B a n zs) (hf : ∀ z ∈ zs, (Lit.int .i64 z).wf = true) (hn : n ≤ 16777216) :
    Calls Tryz.prog 126 #[.slice a n c] w fun e w' => e = .returned (.int .i64 (digN zs n)) ∧ w = w' := by
  have HF := Lib.hid hf
  clear hf
  go_enter Tryz.func126, Tryz.ntmps126
  go_wp2
  go_loop [3, 4] (fun s i => ∃ k : Nat, k ≤ n ∧ i = .int .i64 k ∧ s = .int .i64 (digN zs k)) (fun _ i => n - (intOf i).toNat)
  case atStart => exact ⟨0, Nat.zero_le _, rfl, rfl⟩
  case round =>
    obtain ⟨k, hk, rfl, rfl⟩ := hrel
    obtain ⟨d0, d1⟩ := digN_bd zs k
    by_cases hlt : k < n
    · obtain ⟨b, off, z, rfl, hb, hz, hc⟩ := h.at_ hlt
      have hzb : -9223372036854775808 ≤ z ∧ z ≤ 9223372036854775807 := by rw [hz.out]; exact fit_at HF.out (by rw [h.1]; exact hlt)
      obtain ⟨m0, m1⟩ := modV_bd z
      obtain ⟨m, hm⟩ : ∃ m, m = modV z 2147483647 := ⟨_, rfl⟩
      rw [← hm] at m0 m1
      have HM := Lib.hid hm
      clear hm
      obtain ⟨d, hd⟩ : ∃ d, d = digN zs k := ⟨_, rfl⟩
      rw [← hd] at d0 d1 ⊢
      have HD := Lib.hid hd
      clear hd
      go_wp2_with fail
      refine (specMod _ _ _ (by omega) (by omega)).mono ?_
      rintro e w1 ⟨he, rfl⟩
      rw [← HM.out] at he
      subst he
      go_wp2_with fail
      go_round
      case rel => exact ⟨k + 1, by omega, by go_num, by rw [show digN zs (k + 1) = (digN zs k * 1000003 + modV (zs.getD k 0) 2147483647 + 11) % 2147483647 from rfl, ← hz.out, ← HM.out, ← HD.out]⟩
      case measure => simp [intOf]; omega
    · obtain rfl : k = n := by omega
      go_wp2
      go_ret
      exact ⟨rfl, rfl⟩

set_option maxRecDepth 100000 in
set_option maxHeartbeats 800000 in
theorem implDigest (a : Option Addr) (n c B : Nat) (zs : List Int) (w : World) (h : Has .i64 w B a n zs) (hf : ∀ z ∈ zs, (Lit.int .i64 z).wf = true) (hn : n ≤ 16777216) :
    Calls Tryz.prog 132 #[.slice a n c] w fun e w' => e = .returned (.int .i64 (digN zs n)) ∧ w = w' := by
  have HF := Lib.hid hf
  clear hf
  go_enter Tryz.func132, Tryz.ntmps132
  go_wp2
  go_loop [3, 8] (fun s i => ∃ k : Nat, k ≤ n ∧ i = .int .i64 k ∧ s = .int .i64 (digN zs k)) (fun _ i => n - (intOf i).toNat)
  case atStart => exact ⟨0, Nat.zero_le _, rfl, rfl⟩
  case round =>
    obtain ⟨k, hk, rfl, rfl⟩ := hrel
    obtain ⟨d0, d1⟩ := digN_bd zs k
    by_cases hlt : k < n
    · obtain ⟨b, off, z, rfl, hb, hz, hc⟩ := h.at_ hlt
      have hzb : -9223372036854775808 ≤ z ∧ z ≤ 9223372036854775807 := by rw [hz.out]; exact fit_at HF.out (by rw [h.1]; exact hlt)
      obtain ⟨m0, m1⟩ := modV_bd z
      obtain ⟨m, hm⟩ : ∃ m, m = modV z 2147483647 := ⟨_, rfl⟩
      rw [← hm] at m0 m1
      have HM := Lib.hid hm
      clear hm
      obtain ⟨d, hd⟩ : ∃ d, d = digN zs k := ⟨_, rfl⟩
      rw [← hd] at d0 d1 ⊢
      have HD := Lib.hid hd
      clear hd
      go_wp2_with fail
      refine (implMod _ _ _ (by omega) (by omega)).mono ?_
      rintro e w1 ⟨he, rfl⟩
      rw [← HM.out] at he
      subst he
      go_wp2_with fail
      refine (implMod _ _ _ (by omega) (by omega)).mono ?_
      rintro e w1 ⟨rfl, rfl⟩
      go_wp2_with fail
      go_round
      case rel => exact ⟨k + 1, by omega, by go_num, by rw [show digN zs (k + 1) = (digN zs k * 1000003 + modV (zs.getD k 0) 2147483647 + 11) % 2147483647 from rfl, ← hz.out, ← HM.out, ← HD.out, ← modV_of]⟩
      case measure => simp [intOf]; omega
    · obtain rfl : k = n := by omega
      go_wp2
      go_ret
      exact ⟨rfl, rfl⟩

end Go.Proofs.YtjdlkgfelccicaaGreat
namespace Go.Proofs.YtjdlkgfelccicaaGreat
open Go.ChangeShapes Go.WideShapes Go.ChangeAt Go.RowKit
set_option linter.unusedVariables false
def macV (key : Int) (zs : List Int) : Int := digN (key :: (zs ++ [key])) (zs.length + 2)

theorem mac_fits {key : Int} {zs : List Int} (hk : (Lit.int .i64 key).wf = true) (h : ∀ z ∈ zs, (Lit.int .i64 z).wf = true) : ∀ z ∈ [key] ++ zs ++ [key], (Lit.int .i64 z).wf = true := by
  intro z hz
  simp only [List.mem_append, List.mem_singleton] at hz
  rcases hz with (rfl | hz) | rfl
  · exact hk
  · exact h z hz
  · exact hk

set_option maxRecDepth 100000 in
set_option maxHeartbeats 1600000 in
theorem implMAC (key : Int) (a : Option Addr) (n c : Nat) (zs : List Int) (w : World) (hk : (Lit.int .i64 key).wf = true) (h : Has .i64 w w.heap.size a n zs) (hc0 : a = none → c = 0) (hf : ∀ z ∈ zs, (Lit.int .i64 z).wf = true) (hn : n ≤ 1048600) :
    Calls Tryz.prog 130 #[.int .i64 key, .slice a n c] w fun e w' => e = .returned (.int .i64 (macV key zs)) ∧ Below w.heap.size w w' := by
  have hl := h.1
  have HF := Lib.hid (mac_fits hk hf)
  have HC := Lib.hid hc0
  have HL := Lib.hid hl
  clear hf hc0 hl
  go_enter Tryz.func130, Tryz.ntmps130
  go_wp2_with fail
  have b1 : Below w.heap.size w ((w.alloc (.cells #[.int .i64 key] 3)).alloc (.cells #[.int .i64 key] 3)) := ((Below.refl _ _).alloc (Nat.le_refl _) _).alloc (by simp) _
  have hp : Parts (((w.alloc (.cells #[.int .i64 key] 3)).alloc (.cells #[.int .i64 key] 3)).alloc (.cells #[.slice (some ⟨w.heap.size, 0, none⟩) 1 1, .slice a n c, .slice (some ⟨w.heap.size + 1, 0, none⟩) 1 1] 49)) (w.heap.size + 2) 0 [[key], zs, [key]] := by
    refine ⟨by simp, fun j hj => ?_⟩
    match j, hj with
    | 0, _ => exact ⟨_, 1, 1, World.cell?_alloc_at _ _ _ _ (by simp), (fun h => by cases h), ((has_new .i64 w _ key).alloc _).alloc _⟩
    | 1, _ => exact ⟨a, n, c, World.cell?_alloc_at _ _ _ _ (by simp), HC.out, ((h.alloc _).alloc _).alloc _⟩
    | 2, _ =>
      have h3 := has_new .i64 (w.alloc (.cells #[.int .i64 key] 3)) 3 key
      exact ⟨_, 1, 1, World.cell?_alloc_at _ _ _ _ (by simp), (fun h => by cases h), (by simpa using h3.alloc _)⟩
  have hfl : ([[key], zs, [key]] : List (List Int)).flatten = [key] ++ zs ++ [key] := by simp
  have hfn : ([[key], zs, [key]] : List (List Int)).flatten.length = n + 2 := by have := HL.out; rw [hfl]; simp; omega
  refine (concatInts _ 0 3 _ _ hp (by simp) (by omega) (by omega)).mono ?_
  rw [hfn, hfl]
  rintro e w1 ⟨v, rfl, hown, hb1⟩
  obtain ⟨A, cc, rfl, _⟩ := ownsRow_slice hown
  have ho := ownsRow_own hown
  clear hown hfl hfn hp
  go_wp2_with fail
  refine (implDigest _ _ _ _ _ _ ho.has HF.out (by omega)).mono ?_
  rintro e w' ⟨rfl, rfl⟩
  go_wp2_with fail
  go_ret
  refine ⟨ret_int (by rw [macV, HL.out]), ?_⟩
  exact (((b1.alloc (by simp; omega) _).trans (hb1.mono (by simp; omega))))

set_option maxRecDepth 100000 in
set_option maxHeartbeats 1600000 in
theorem specMAC (key : Int) (a : Option Addr) (n c : Nat) (zs : List Int) (w : World) (hk : (Lit.int .i64 key).wf = true) (h : Has .i64 w w.heap.size a n zs) (hc0 : a = none → c = 0) (hf : ∀ z ∈ zs, (Lit.int .i64 z).wf = true) (hn : n ≤ 1048600) :
    Calls Tryz.prog 119 #[.int .i64 key, .slice a n c] w fun e w' => e = .returned (.int .i64 (macV key zs)) ∧ Below w.heap.size w w' := by
  have hl := h.1
  have HF := Lib.hid (mac_fits hk hf)
  have HC := Lib.hid hc0
  have HL := Lib.hid hl
  clear hf hc0 hl
  obtain ⟨i0, hi, hz0, hz1, hz2⟩ := info_parts infoI64
  have ha := h.alloc (.cells #[.int .i64 key] 3)
  have ho := own_lit w 3 [.int .i64 key] (by simp)
  have hb : Below w.heap.size w (w.alloc (.cells #[.int .i64 key] 3)) := (Below.refl _ _).alloc (Nat.le_refl _) _
  go_enter Tryz.func119, Tryz.ntmps119
  go_wp2_with (first | (at_builtin; refine wpList_app rfl (.tmp 6) (.tmp 7) 49 rfl w.heap.size 3 i0 Tryz.underlying49 hi hz0 hz1 (by rw [hz2]; decide) _ [key] 1 rfl ho a n c zs rfl HC.out ha (by omega) hb.size ?_; intro v1 w1 ho1 hg1 _; have hb1 := hb.grown hg1 hb.size (fun g hg => by cases hg; exact Nat.le_refl _); have hs1 := hb1.size; have hn1 := has_new .i64 w1 3 key; have hb2 := hb1.alloc hs1 (.cells #[.int .i64 key] 3); have ho1' := ho1.alloc (.cells #[.int .i64 key] 3)) | (at_builtin; refine wpList_app rfl (.tmp 8) (.tmp 10) 49 rfl w.heap.size 3 i0 Tryz.underlying49 hi hz0 hz1 (by rw [hz2]; decide) _ ([key] ++ zs) (1 + n) rfl ho1' _ 1 1 [key] rfl (fun h => by cases h) hn1 (by omega) hb2.size ?_; intro v2 w2 ho2 hg2 _))
  have hb3 := hb2.grown hg2 hb2.size (fun g hg => (ho1.lt g hg).1)
  obtain ⟨A, cc, rfl, _⟩ := ownsRow_slice ho2
  have hq := ownsRow_own ho2
  clear ho2 ho1 ho
  go_wp2_with fail
  refine (specDigest _ _ _ _ _ _ hq.has HF.out (by omega)).mono ?_
  rintro e w' ⟨rfl, rfl⟩
  go_wp2_with fail
  go_ret
  exact ⟨ret_int (by rw [macV, HL.out]; congr 1; omega), hb3⟩
end Go.Proofs.YtjdlkgfelccicaaGreat
namespace Go.Proofs.YtjdlkgfelccicaaGreat
open Go.ChangeShapes Go.WideShapes Go.ChangeAt Go.RowKit
set_option linter.unusedVariables false
def hopA (a i e x m : Int) : Value := .agg #[.int .i64 a, .int .i64 i, .int .i64 e, .int .i64 x, .int .i64 m]

set_option maxRecDepth 100000 in
set_option maxHeartbeats 800000 in
theorem toHop (a i e x m : Int) (w : World) :
    Calls Tryz.prog 84 #[.agg #[.int .i64 a, .int .i64 i, .int .i64 e, .int .i64 x, .int .i64 m]] w fun en w' => en = .returned (.agg #[.int .i64 a, .int .i64 i, .int .i64 e, .int .i64 x, .int .i64 m]) ∧ Below w.heap.size w w' := by
  go_enter Tryz.func84, Tryz.ntmps84
  go_wp2
  refine bodyPost_ret (v := .agg #[.int .i64 a, .int .i64 i, .int .i64 e, .int .i64 x, .int .i64 m]) (by simp [results, Tryz.results84, go_sem]) rfl ⟨rfl, ?_⟩
  go_grown

/-- Old cells behind a call, as rules for the walk. -/
theorem kept_cells {W w1 : World} (hb : Below W.heap.size W w1) : (∀ b o, b < W.heap.size → w1.cell? ⟨b, o, none⟩ = W.cell? ⟨b, o, none⟩) ∧ (∀ b o, b < W.heap.size → w1.frozen? ⟨b, o, none⟩ = W.frozen? ⟨b, o, none⟩) :=
  ⟨fun b o h => hb.cell (p := ⟨b, o, none⟩) h, fun b o h => hb.frozen (p := ⟨b, o, none⟩) h⟩
def hopL (t b a i e x : Int) : List Int := [t, b, a, i, e, x]
theorem hop_fits {t b a i e x : Int} (ht : (Lit.int .i64 t).wf = true) (hb : (Lit.int .i64 b).wf = true) (ha : (Lit.int .i64 a).wf = true) (hi : (Lit.int .i64 i).wf = true) (he : (Lit.int .i64 e).wf = true) (hx : (Lit.int .i64 x).wf = true) : ∀ z ∈ hopL t b a i e x, (Lit.int .i64 z).wf = true := by
  intro z hz
  simp only [hopL, List.mem_cons, List.not_mem_nil, or_false] at hz
  rcases hz with rfl | rfl | rfl | rfl | rfl | rfl <;> assumption
theorem has_lit (w : World) (e : TypeId) (zs : List Int) (n : Nat) (hn : n = zs.length) : Has .i64 (w.alloc (.cells (zs.map (Value.int .i64)).toArray e)) (w.alloc (.cells (zs.map (Value.int .i64)).toArray e)).heap.size (some ⟨w.heap.size, 0, none⟩) n zs := by
  subst hn
  refine ⟨rfl, fun _ => ⟨_, 0, rfl, by simp, fun i hi => ?_⟩⟩
  rw [World.cell?_alloc_at _ _ _ _ rfl]
  simp [List.getD_eq_getElem?_getD, hi]

set_option maxRecDepth 100000 in
set_option maxHeartbeats 1600000 in
theorem specHopMAC (k t b a i e x m : Int) (w : World) (hk : (Lit.int .i64 k).wf = true) (hf : ∀ z ∈ hopL t b a i e x, (Lit.int .i64 z).wf = true) :
    Calls Tryz.prog 104 #[.int .i64 k, .int .i64 t, .int .i64 b, .agg #[.int .i64 a, .int .i64 i, .int .i64 e, .int .i64 x, .int .i64 m]] w fun en w' => en = .returned (.int .i64 (macV k (hopL t b a i e x))) ∧ Below w.heap.size w w' := by
  have HF := Lib.hid hf
  clear hf
  have hh : Has .i64 ((w.alloc (.cells #[.int .i64 a, .int .i64 i, .int .i64 e, .int .i64 x, .int .i64 m] 64)).alloc (.cells #[.int .i64 t, .int .i64 b, .int .i64 a, .int .i64 i, .int .i64 e, .int .i64 x] 3)) ((w.alloc (.cells #[.int .i64 a, .int .i64 i, .int .i64 e, .int .i64 x, .int .i64 m] 64)).alloc (.cells #[.int .i64 t, .int .i64 b, .int .i64 a, .int .i64 i, .int .i64 e, .int .i64 x] 3)).heap.size (some ⟨w.heap.size + 1, 0, none⟩) 6 (hopL t b a i e x) := by
    have h := has_lit (w.alloc (.cells #[.int .i64 a, .int .i64 i, .int .i64 e, .int .i64 x, .int .i64 m] 64)) 3 (hopL t b a i e x) 6 rfl
    rw [World.size_alloc w] at h
    exact h
  go_enter Tryz.func104, Tryz.ntmps104
  go_wp2_with fail
  refine (specMAC k (some ⟨w.heap.size + 1, 0, none⟩) 6 6 (hopL t b a i e x) _ hk hh (fun h => by cases h) HF.out (by omega)).mono ?_
  rintro en w1 ⟨rfl, hb1⟩
  go_wp2_with fail
  go_ret
  exact ⟨rfl, (((Below.refl _ _).alloc (Nat.le_refl _) _).alloc (by simp) _).trans (hb1.mono (by simp; omega))⟩

set_option maxRecDepth 100000 in
set_option maxHeartbeats 1600000 in
theorem hopStatement (a i e x m : Int) (w : World) :
    Calls Tryz.prog 131 #[.agg #[.int .i64 a, .int .i64 i, .int .i64 e, .int .i64 x, .int .i64 m]] w fun en w' => en = .returned (.slice (some ⟨w.heap.size + 1, 0, none⟩) 4 4) ∧ Own .i64 w' w.heap.size (some ⟨w.heap.size + 1, 0, none⟩) 4 [a, i, e, x] ∧ Below w.heap.size w w' := by
  go_enter Tryz.func131, Tryz.ntmps131
  go_wp2
  go_ret
  refine ⟨rfl, ?_, ((Below.refl _ _).alloc (Nat.le_refl _) _).alloc (by simp) _⟩
  have h := ownsRow_own (k := .i64) (zs := [a, i, e, x]) (c := 4) (own_lit (w.alloc (.cells #[.int .i64 a, .int .i64 i, .int .i64 e, .int .i64 x, .int .i64 m] 64)) 3 [.int .i64 a, .int .i64 i, .int .i64 e, .int .i64 x] (by simp))
  simpa using h.low (lo' := w.heap.size) (by simp)

set_option maxRecDepth 100000 in
set_option maxHeartbeats 1600000 in
theorem hopMac (k t b a i e x m : Int) (w : World) (hk : (Lit.int .i64 k).wf = true) (hf : ∀ z ∈ hopL t b a i e x, (Lit.int .i64 z).wf = true) :
    Calls Tryz.prog 128 #[.agg #[.int .i64 a, .int .i64 i, .int .i64 e, .int .i64 x, .int .i64 m], .int .i64 k, .int .i64 t, .int .i64 b] w fun en w' => en = .returned (.int .i64 (macV k (hopL t b a i e x))) ∧ Below w.heap.size w w' := by
  have HF := Lib.hid hf
  clear hf
  obtain ⟨i0, hi, hz0, hz1, hz2⟩ := info_parts infoI64
  have hby : i0.bytes ≤ 8 := by rw [hz2]; decide
  have ho : (((w.alloc (.cells #[.int .i64 a, .int .i64 i, .int .i64 e, .int .i64 x, .int .i64 m] 64)).alloc (.cells #[.int .i64 t, .int .i64 b] 3))).ownsRow w.heap.size 3 1 (.slice (some ⟨w.heap.size + 1, 0, none⟩) 2 2) 2 ([t, b].map (.int .i64)) := by
    have h := own_lit (w.alloc (.cells #[.int .i64 a, .int .i64 i, .int .i64 e, .int .i64 x, .int .i64 m] 64)) 3 [.int .i64 t, .int .i64 b] (by simp)
    rw [World.size_alloc w] at h
    exact own_low h (by omega)
  have hb0 : Below w.heap.size w ((w.alloc (.cells #[.int .i64 a, .int .i64 i, .int .i64 e, .int .i64 x, .int .i64 m] 64)).alloc (.cells #[.int .i64 t, .int .i64 b] 3)) := ((Below.refl _ _).alloc (Nat.le_refl _) _).alloc (by simp) _
  go_enter Tryz.func128, Tryz.ntmps128
  go_wp2_with fail
  refine (hopStatement a i e x m _).mono ?_
  rintro en w1 ⟨rfl, hs, hb1⟩
  have ho1 : w1.ownsRow w.heap.size 3 1 (.slice (some ⟨w.heap.size + 1, 0, none⟩) 2 2) 2 ([t, b].map (.int .i64)) := ho.kept (row := none) ⟨hb1.os, hb1.tape, hb1.output, hb1.size, fun g hg _ => hb1.block g hg⟩ (.inr (by simp [Value.ownBlock]))
  have hB1 := hb0.trans (hb1.mono hb0.size)
  have hlo := hB1.size
  have hh := hs.has
  simp only [World.size_alloc] at hh
  have hbnd : 2 + 4 ≤ 1073741824 := by decide
  clear hs hb1 ho
  go_wp2_with (at_builtin; refine wpList_app rfl (.tmp 12) (.tmp 14) 49 rfl w.heap.size 3 i0 Tryz.underlying49 hi hz0 hz1 hby _ [t, b] 2 rfl ho1 _ 4 4 [a, i, e, x] rfl (fun h => by cases h) hh hbnd hlo ?_; intro v2 w2 ho2 hg2 _)
  have hB2 := hB1.grown hg2 hlo (fun g hg => (ho1.lt g hg).1)
  obtain ⟨A2, c2, rfl, hc2⟩ := ownsRow_slice ho2
  have hq := (ownsRow_own ho2).has
  have HC := Lib.hid hc2
  clear ho2 hc2
  go_wp2_with fail
  refine (implMAC k A2 6 c2 (hopL t b a i e x) _ hk hq HC.out HF.out (by omega)).mono ?_
  rintro en w3 ⟨rfl, hb3⟩
  go_wp2_with fail
  go_ret
  exact ⟨rfl, hB2.trans (hb3.mono hB2.size)⟩

set_option maxRecDepth 100000 in
set_option maxHeartbeats 1600000 in
theorem implHopMAC (k t b a i e x m : Int) (w : World) (hk : (Lit.int .i64 k).wf = true) (hf : ∀ z ∈ hopL t b a i e x, (Lit.int .i64 z).wf = true) :
    Calls Tryz.prog 124 #[.int .i64 k, .int .i64 t, .int .i64 b, .agg #[.int .i64 a, .int .i64 i, .int .i64 e, .int .i64 x, .int .i64 m]] w fun en w' => en = .returned (.int .i64 (macV k (hopL t b a i e x))) ∧ Below w.heap.size w w' := by
  have HF := Lib.hid hf
  clear hf
  go_enter Tryz.func124, Tryz.ntmps124
  go_wp2_with fail
  refine (hopMac k t b a i e x m _ hk HF.out).mono ?_
  rintro en w1 ⟨rfl, hb1⟩
  go_wp2_with fail
  go_ret
  exact ⟨rfl, ((Below.refl _ _).alloc (Nat.le_refl _) _).trans (hb1.mono (by simp))⟩

set_option maxRecDepth 100000 in
theorem eqHopSame (a i e x m : Int) (w : World) :
    Calls Tryz.prog 103 #[.agg #[.int .i64 a, .int .i64 i, .int .i64 e, .int .i64 x, .int .i64 m], .agg #[.int .i64 a, .int .i64 i, .int .i64 e, .int .i64 x, .int .i64 m]] w fun en w' => en = .returned (.bool true) ∧ Below w.heap.size w w' := by
  go_enter Tryz.func103, Tryz.ntmps103
  go_wp2
  go_ret
  exact ⟨rfl, by go_grown⟩
end Go.Proofs.YtjdlkgfelccicaaGreat
namespace Go.Proofs.YtjdlkgfelccicaaGreat
open Go.ChangeShapes Go.WideShapes Go.ChangeAt Go.RowKit
set_option linter.unusedVariables false
def vhB (zs : List TAS) (n : Nat) (t b nd ing eg exp mac : Int) : Bool := hopOk ⟨nd, ing, eg, exp, mac⟩ && (decide (nd < n) && (mac == macV (zs.getD nd.toNat default).key (hopL t b nd ing eg exp)))
theorem key_fits {zs : List TAS} {n q : Nat} (hl : zs.length = n) (hq : q < n) (hz : ∀ y ∈ zs, TAS.fits y) {y : TAS} (hy : y = zs.getD q default) : (Lit.int .i64 y.key).wf = true := by
  subst hy
  have : zs.getD q default ∈ zs := by
    rw [List.getD_eq_getElem?_getD, List.getElem?_eq_getElem (by omega)]
    exact List.getElem_mem _
  exact (hz _ this).2

set_option maxRecDepth 100000 in
set_option maxHeartbeats 4000000 in
theorem specRealmIn (a0 a1 : Option Addr) (n0 c0 n1 c1 : Nat) (r : Int) (w : World) (hn : n0 ≤ 1048576) (h0 : 0 ≤ r) (h1 : r < (n0 : Int)) :
    Calls Tryz.prog 59 #[.agg #[.slice a0 n0 c0, .slice a1 n1 c1], .int .i64 r] w fun e w' => e = .returned (.bool true) ∧ Mk0 w w' := by
  have H0 := Lib.hid h0
  have H1 := Lib.hid h1
  go_enter Tryz.func59, Tryz.ntmps59
  go_wp2_with fail
  refine (specInYes _ _ _ _ H0.out (by have := H1.out; omega)).mono ?_
  rintro e w' ⟨rfl, rfl⟩
  go_wp2_with fail
  go_ret
  exact ⟨rfl, Mk.alloc _ _⟩

set_option maxRecDepth 100000 in
set_option maxHeartbeats 4000000 in
theorem specRealmOut (a0 a1 : Option Addr) (n0 c0 n1 c1 : Nat) (r : Int) (w : World) (hn : n0 ≤ 1048576) (h1 : r < 0 ∨ (n0 : Int) ≤ r) :
    Calls Tryz.prog 59 #[.agg #[.slice a0 n0 c0, .slice a1 n1 c1], .int .i64 r] w fun e w' => e = .returned (.bool false) ∧ Mk0 w w' := by
  have H1 := Lib.hid h1
  clear h1
  go_enter Tryz.func59, Tryz.ntmps59
  go_wp2_with fail
  refine (specInNo _ _ _ _ (by have := H1.out; omega)).mono ?_
  rintro e w' ⟨rfl, rfl⟩
  go_wp2_with fail
  go_ret
  exact ⟨rfl, Mk.alloc _ _⟩

theorem specVHop_true (a i e x m : Int) (w : World) (hk : hopOk ⟨a, i, e, x, m⟩ = true) : Calls Tryz.prog 58 #[.agg #[.int .i64 a, .int .i64 i, .int .i64 e, .int .i64 x, .int .i64 m]] w fun en w' => en = .returned (.bool true) ∧ Mk0 w w' :=
  hk ▸ specVHop a i e x m w

theorem specVHop_false (a i e x m : Int) (w : World) (hk : hopOk ⟨a, i, e, x, m⟩ = false) : Calls Tryz.prog 58 #[.agg #[.int .i64 a, .int .i64 i, .int .i64 e, .int .i64 x, .int .i64 m]] w fun en w' => en = .returned (.bool false) ∧ Mk0 w w' :=
  hk ▸ specVHop a i e x m w

set_option maxRecDepth 100000 in
set_option maxHeartbeats 4000000 in
theorem implRealmIn (a0 a1 : Option Addr) (n0 c0 n1 c1 : Nat) (r : Int) (w : World) (hn : n0 ≤ 1048576) (h0 : 0 ≤ r) (h1 : r < (n0 : Int)) :
    Calls Tryz.prog 68 #[.agg #[.slice a0 n0 c0, .slice a1 n1 c1], .int .i64 r] w fun e w' => e = .returned (.bool true) ∧ Mk0 w w' := by
  have H0 := Lib.hid h0
  have H1 := Lib.hid h1
  go_enter Tryz.func68, Tryz.ntmps68
  go_wp2_with fail
  refine (implInYes _ _ _ _ H0.out (by have := H1.out; omega)).mono ?_
  rintro e w' ⟨rfl, rfl⟩
  go_wp2_with fail
  go_ret
  exact ⟨rfl, Mk.alloc _ _⟩

set_option maxRecDepth 100000 in
set_option maxHeartbeats 4000000 in
theorem implRealmOut (a0 a1 : Option Addr) (n0 c0 n1 c1 : Nat) (r : Int) (w : World) (hn : n0 ≤ 1048576) (h1 : r < 0 ∨ (n0 : Int) ≤ r) :
    Calls Tryz.prog 68 #[.agg #[.slice a0 n0 c0, .slice a1 n1 c1], .int .i64 r] w fun e w' => e = .returned (.bool false) ∧ Mk0 w w' := by
  have H1 := Lib.hid h1
  clear h1
  go_enter Tryz.func68, Tryz.ntmps68
  go_wp2_with fail
  refine (implInNo _ _ _ _ (by have := H1.out; omega)).mono ?_
  rintro e w' ⟨rfl, rfl⟩
  go_wp2_with fail
  go_ret
  exact ⟨rfl, Mk.alloc _ _⟩

theorem implVHop_true (a i e x m : Int) (w : World) (hk : hopOk ⟨a, i, e, x, m⟩ = true) : Calls Tryz.prog 67 #[.agg #[.int .i64 a, .int .i64 i, .int .i64 e, .int .i64 x, .int .i64 m]] w fun en w' => en = .returned (.bool true) ∧ Mk0 w w' :=
  hk ▸ implVHop a i e x m w

theorem implVHop_false (a i e x m : Int) (w : World) (hk : hopOk ⟨a, i, e, x, m⟩ = false) : Calls Tryz.prog 67 #[.agg #[.int .i64 a, .int .i64 i, .int .i64 e, .int .i64 x, .int .i64 m]] w fun en w' => en = .returned (.bool false) ∧ Mk0 w w' :=
  hk ▸ implVHop a i e x m w

set_option maxRecDepth 100000 in
set_option maxHeartbeats 4000000 in
theorem specVerify (a0 a1 : Option Addr) (n0 c0 n1 c1 B : Nat) (zs : List TAS) (t b nd ing eg exp mac : Int) (w : World) (h : HasAS w B a0 n0 zs) (hB : B ≤ w.heap.size) (hn : n0 ≤ 1048576) (hz : ∀ y ∈ zs, TAS.fits y) (hf : ∀ z ∈ hopL t b nd ing eg exp, (Lit.int .i64 z).wf = true) :
    Calls Tryz.prog 79 #[.agg #[.slice a0 n0 c0, .slice a1 n1 c1], .int .i64 t, .int .i64 b, .agg #[.int .i64 nd, .int .i64 ing, .int .i64 eg, .int .i64 exp, .int .i64 mac]] w fun e w' => e = .returned (.bool (vhB zs n0 t b nd ing eg exp mac)) ∧ Mk0 w w' := by
  cases hk : hopOk ⟨nd, ing, eg, exp, mac⟩
  · have HR := Lib.hid (show vhB zs n0 t b nd ing eg exp mac = false by unfold vhB; rw [hk]; rfl)
    have HK := Lib.hid hk
    clear hk hf hz
    go_enter Tryz.func79, Tryz.ntmps79
    go_wp2_with fail
    refine wp_region_any (by kernel_rfl) ?_
    change wpAny _ _ _ _ _ _ _ (World.drew _)
    refine wpAny_ready (rs := [0]) (by kernel_rfl) (by simp) ?_
    refine AllReady.cons rfl (fun K hK => ?_) AllReady.nil
    go_simp
    refine hK _ _ ?_
    clear hK K
    try simp only [Act.put, List.getElem_toArray, List.getElem_cons_succ, List.getElem_cons_zero, List.setIfInBounds_toArray, List.set_cons_zero, List.set_cons_succ]
    refine wpAny_ready (rs := [1]) (by kernel_rfl) (by simp) ?_
    refine AllReady.cons rfl (fun K hK => ?_) AllReady.nil
    go_simp
    go_wp2_with (go_at_call 58; refine (specVHop_false _ _ _ _ _ _ HK.out).mono ?_; rintro e w2 ⟨rfl, m2⟩)
    try simp only [Act.put, List.getElem_toArray, List.getElem_cons_succ, List.getElem_cons_zero, List.setIfInBounds_toArray, List.set_cons_zero, List.set_cons_succ]
    first | (refine wpAny_take (i := 2) (v := undef) rfl (by kernel_rfl) (by kernel_rfl) (by kernel_rfl) (fun _ _ _ h => h) (Or.inr ⟨by rfl, rfl⟩) ?_) | (refine wpAny_take (i := 2) (v := _) rfl (by kernel_rfl) (by kernel_rfl) (by kernel_rfl) (fun _ _ _ h => h) (Or.inl ⟨by rfl, fun w => by go_simp; try with_reducible rfl⟩) ?_)
    try simp only [Act.put, List.getElem_toArray, List.getElem_cons_succ, List.getElem_cons_zero, List.setIfInBounds_toArray, List.set_cons_zero, List.set_cons_succ]
    first | (refine wpAny_take (i := 3) (v := undef) rfl (by kernel_rfl) (by kernel_rfl) (by kernel_rfl) (fun _ _ _ h => h) (Or.inr ⟨by rfl, rfl⟩) ?_) | (refine wpAny_take (i := 3) (v := _) rfl (by kernel_rfl) (by kernel_rfl) (by kernel_rfl) (fun _ _ _ h => h) (Or.inl ⟨by rfl, fun w => by go_simp; try with_reducible rfl⟩) ?_)
    try simp only [Act.put, List.getElem_toArray, List.getElem_cons_succ, List.getElem_cons_zero, List.setIfInBounds_toArray, List.set_cons_zero, List.set_cons_succ]
    first | (refine wpAny_take (i := 4) (v := undef) rfl (by kernel_rfl) (by kernel_rfl) (by kernel_rfl) (fun _ _ _ h => h) (Or.inr ⟨by rfl, rfl⟩) ?_) | (refine wpAny_take (i := 4) (v := _) rfl (by kernel_rfl) (by kernel_rfl) (by kernel_rfl) (fun _ _ _ h => h) (Or.inl ⟨by rfl, fun w => by go_simp; try with_reducible rfl⟩) ?_)
    try simp only [Act.put, List.getElem_toArray, List.getElem_cons_succ, List.getElem_cons_zero, List.setIfInBounds_toArray, List.set_cons_zero, List.set_cons_succ]
    first | (refine wpAny_take (i := 5) (v := undef) rfl (by kernel_rfl) (by kernel_rfl) (by kernel_rfl) (fun _ _ _ h => h) (Or.inr ⟨by rfl, rfl⟩) ?_) | (refine wpAny_take (i := 5) (v := _) rfl (by kernel_rfl) (by kernel_rfl) (by kernel_rfl) (fun _ _ _ h => h) (Or.inl ⟨by rfl, fun w => by go_simp; try with_reducible rfl⟩) ?_)
    try simp only [Act.put, List.getElem_toArray, List.getElem_cons_succ, List.getElem_cons_zero, List.setIfInBounds_toArray, List.set_cons_zero, List.set_cons_succ]
    first | (refine wpAny_take (i := 6) (v := undef) rfl (by kernel_rfl) (by kernel_rfl) (by kernel_rfl) (fun _ _ _ h => h) (Or.inr ⟨by rfl, rfl⟩) ?_) | (refine wpAny_take (i := 6) (v := _) rfl (by kernel_rfl) (by kernel_rfl) (by kernel_rfl) (fun _ _ _ h => h) (Or.inl ⟨by rfl, fun w => by go_simp; try with_reducible rfl⟩) ?_)
    try simp only [Act.put, List.getElem_toArray, List.getElem_cons_succ, List.getElem_cons_zero, List.setIfInBounds_toArray, List.set_cons_zero, List.set_cons_succ]
    first | (refine wpAny_take (i := 7) (v := undef) rfl (by kernel_rfl) (by kernel_rfl) (by kernel_rfl) (fun _ _ _ h => h) (Or.inr ⟨by rfl, rfl⟩) ?_) | (refine wpAny_take (i := 7) (v := _) rfl (by kernel_rfl) (by kernel_rfl) (by kernel_rfl) (fun _ _ _ h => h) (Or.inl ⟨by rfl, fun w => by go_simp; try with_reducible rfl⟩) ?_)
    try simp only [Act.put, List.getElem_toArray, List.getElem_cons_succ, List.getElem_cons_zero, List.setIfInBounds_toArray, List.set_cons_zero, List.set_cons_succ]
    first | (refine wpAny_take (i := 8) (v := undef) rfl (by kernel_rfl) (by kernel_rfl) (by kernel_rfl) (fun _ _ _ h => h) (Or.inr ⟨by rfl, rfl⟩) ?_) | (refine wpAny_take (i := 8) (v := _) rfl (by kernel_rfl) (by kernel_rfl) (by kernel_rfl) (fun _ _ _ h => h) (Or.inl ⟨by rfl, fun w => by go_simp; try with_reducible rfl⟩) ?_)
    try simp only [Act.put, List.getElem_toArray, List.getElem_cons_succ, List.getElem_cons_zero, List.setIfInBounds_toArray, List.set_cons_zero, List.set_cons_succ]
    first | (refine wpAny_take (i := 9) (v := undef) rfl (by kernel_rfl) (by kernel_rfl) (by kernel_rfl) (fun _ _ _ h => h) (Or.inr ⟨by rfl, rfl⟩) ?_) | (refine wpAny_take (i := 9) (v := _) rfl (by kernel_rfl) (by kernel_rfl) (by kernel_rfl) (fun _ _ _ h => h) (Or.inl ⟨by rfl, fun w => by go_simp; try with_reducible rfl⟩) ?_)
    try simp only [Act.put, List.getElem_toArray, List.getElem_cons_succ, List.getElem_cons_zero, List.setIfInBounds_toArray, List.set_cons_zero, List.set_cons_succ]
    first | (refine wpAny_take (i := 10) (v := undef) rfl (by kernel_rfl) (by kernel_rfl) (by kernel_rfl) (fun _ _ _ h => h) (Or.inr ⟨by rfl, rfl⟩) ?_) | (refine wpAny_take (i := 10) (v := _) rfl (by kernel_rfl) (by kernel_rfl) (by kernel_rfl) (fun _ _ _ h => h) (Or.inl ⟨by rfl, fun w => by go_simp; try with_reducible rfl⟩) ?_)
    try simp only [Act.put, List.getElem_toArray, List.getElem_cons_succ, List.getElem_cons_zero, List.setIfInBounds_toArray, List.set_cons_zero, List.set_cons_succ]
    first | (refine wpAny_take (i := 11) (v := undef) rfl (by kernel_rfl) (by kernel_rfl) (by kernel_rfl) (fun _ _ _ h => h) (Or.inr ⟨by rfl, rfl⟩) ?_) | (refine wpAny_take (i := 11) (v := _) rfl (by kernel_rfl) (by kernel_rfl) (by kernel_rfl) (fun _ _ _ h => h) (Or.inl ⟨by rfl, fun w => by go_simp; try with_reducible rfl⟩) ?_)
    try simp only [Act.put, List.getElem_toArray, List.getElem_cons_succ, List.getElem_cons_zero, List.setIfInBounds_toArray, List.set_cons_zero, List.set_cons_succ]
    first | (refine wpAny_take (i := 12) (v := undef) rfl (by kernel_rfl) (by kernel_rfl) (by kernel_rfl) (fun _ _ _ h => h) (Or.inr ⟨by rfl, rfl⟩) ?_) | (refine wpAny_take (i := 12) (v := _) rfl (by kernel_rfl) (by kernel_rfl) (by kernel_rfl) (fun _ _ _ h => h) (Or.inl ⟨by rfl, fun w => by go_simp; try with_reducible rfl⟩) ?_)
    try simp only [Act.put, List.getElem_toArray, List.getElem_cons_succ, List.getElem_cons_zero, List.setIfInBounds_toArray, List.set_cons_zero, List.set_cons_succ]
    first | (refine wpAny_take (i := 13) (v := undef) rfl (by kernel_rfl) (by kernel_rfl) (by kernel_rfl) (fun _ _ _ h => h) (Or.inr ⟨by rfl, rfl⟩) ?_) | (refine wpAny_take (i := 13) (v := _) rfl (by kernel_rfl) (by kernel_rfl) (by kernel_rfl) (fun _ _ _ h => h) (Or.inl ⟨by rfl, fun w => by go_simp; try with_reducible rfl⟩) ?_)
    try simp only [Act.put, List.getElem_toArray, List.getElem_cons_succ, List.getElem_cons_zero, List.setIfInBounds_toArray, List.set_cons_zero, List.set_cons_succ]
    first | (refine wpAny_take (i := 14) (v := undef) rfl (by kernel_rfl) (by kernel_rfl) (by kernel_rfl) (fun _ _ _ h => h) (Or.inr ⟨by rfl, rfl⟩) ?_) | (refine wpAny_take (i := 14) (v := _) rfl (by kernel_rfl) (by kernel_rfl) (by kernel_rfl) (fun _ _ _ h => h) (Or.inl ⟨by rfl, fun w => by go_simp; try with_reducible rfl⟩) ?_)
    try simp only [Act.put, List.getElem_toArray, List.getElem_cons_succ, List.getElem_cons_zero, List.setIfInBounds_toArray, List.set_cons_zero, List.set_cons_succ]
    first | (refine wpAny_take (i := 15) (v := undef) rfl (by kernel_rfl) (by kernel_rfl) (by kernel_rfl) (fun _ _ _ h => h) (Or.inr ⟨by rfl, rfl⟩) ?_) | (refine wpAny_take (i := 15) (v := _) rfl (by kernel_rfl) (by kernel_rfl) (by kernel_rfl) (fun _ _ _ h => h) (Or.inl ⟨by rfl, fun w => by go_simp; try with_reducible rfl⟩) ?_)
    try simp only [Act.put, List.getElem_toArray, List.getElem_cons_succ, List.getElem_cons_zero, List.setIfInBounds_toArray, List.set_cons_zero, List.set_cons_succ]
    first | (refine wpAny_take (i := 16) (v := undef) rfl (by kernel_rfl) (by kernel_rfl) (by kernel_rfl) (fun _ _ _ h => h) (Or.inr ⟨by rfl, rfl⟩) ?_) | (refine wpAny_take (i := 16) (v := _) rfl (by kernel_rfl) (by kernel_rfl) (by kernel_rfl) (fun _ _ _ h => h) (Or.inl ⟨by rfl, fun w => by go_simp; try with_reducible rfl⟩) ?_)
    try simp only [Act.put, List.getElem_toArray, List.getElem_cons_succ, List.getElem_cons_zero, List.setIfInBounds_toArray, List.set_cons_zero, List.set_cons_succ]
    first | (refine wpAny_take (i := 17) (v := undef) rfl (by kernel_rfl) (by kernel_rfl) (by kernel_rfl) (fun _ _ _ h => h) (Or.inr ⟨by rfl, rfl⟩) ?_) | (refine wpAny_take (i := 17) (v := _) rfl (by kernel_rfl) (by kernel_rfl) (by kernel_rfl) (fun _ _ _ h => h) (Or.inl ⟨by rfl, fun w => by go_simp; try with_reducible rfl⟩) ?_)
    try simp only [Act.put, List.getElem_toArray, List.getElem_cons_succ, List.getElem_cons_zero, List.setIfInBounds_toArray, List.set_cons_zero, List.set_cons_succ]
    first | (refine wpAny_take (i := 18) (v := undef) rfl (by kernel_rfl) (by kernel_rfl) (by kernel_rfl) (fun _ _ _ h => h) (Or.inr ⟨by rfl, rfl⟩) ?_) | (refine wpAny_take (i := 18) (v := _) rfl (by kernel_rfl) (by kernel_rfl) (by kernel_rfl) (fun _ _ _ h => h) (Or.inl ⟨by rfl, fun w => by go_simp; try with_reducible rfl⟩) ?_)
    try simp only [Act.put, List.getElem_toArray, List.getElem_cons_succ, List.getElem_cons_zero, List.setIfInBounds_toArray, List.set_cons_zero, List.set_cons_succ]
    first | (refine wpAny_take (i := 19) (v := undef) rfl (by kernel_rfl) (by kernel_rfl) (by kernel_rfl) (fun _ _ _ h => h) (Or.inr ⟨by rfl, rfl⟩) ?_) | (refine wpAny_take (i := 19) (v := _) rfl (by kernel_rfl) (by kernel_rfl) (by kernel_rfl) (fun _ _ _ h => h) (Or.inl ⟨by rfl, fun w => by go_simp; try with_reducible rfl⟩) ?_)
    try simp only [Act.put, List.getElem_toArray, List.getElem_cons_succ, List.getElem_cons_zero, List.setIfInBounds_toArray, List.set_cons_zero, List.set_cons_succ]
    first | (refine wpAny_take (i := 20) (v := undef) rfl (by kernel_rfl) (by kernel_rfl) (by kernel_rfl) (fun _ _ _ h => h) (Or.inr ⟨by rfl, rfl⟩) ?_) | (refine wpAny_take (i := 20) (v := _) rfl (by kernel_rfl) (by kernel_rfl) (by kernel_rfl) (fun _ _ _ h => h) (Or.inl ⟨by rfl, fun w => by go_simp; try with_reducible rfl⟩) ?_)
    try simp only [Act.put, List.getElem_toArray, List.getElem_cons_succ, List.getElem_cons_zero, List.setIfInBounds_toArray, List.set_cons_zero, List.set_cons_succ]
    first | (refine wpAny_take (i := 21) (v := undef) rfl (by kernel_rfl) (by kernel_rfl) (by kernel_rfl) (fun _ _ _ h => h) (Or.inr ⟨by rfl, rfl⟩) ?_) | (refine wpAny_take (i := 21) (v := _) rfl (by kernel_rfl) (by kernel_rfl) (by kernel_rfl) (fun _ _ _ h => h) (Or.inl ⟨by rfl, fun w => by go_simp; try with_reducible rfl⟩) ?_)
    try simp only [Act.put, List.getElem_toArray, List.getElem_cons_succ, List.getElem_cons_zero, List.setIfInBounds_toArray, List.set_cons_zero, List.set_cons_succ]
    first | (refine wpAny_take (i := 22) (v := undef) rfl (by kernel_rfl) (by kernel_rfl) (by kernel_rfl) (fun _ _ _ h => h) (Or.inr ⟨by rfl, rfl⟩) ?_) | (refine wpAny_take (i := 22) (v := _) rfl (by kernel_rfl) (by kernel_rfl) (by kernel_rfl) (fun _ _ _ h => h) (Or.inl ⟨by rfl, fun w => by go_simp; try with_reducible rfl⟩) ?_)
    try simp only [Act.put, List.getElem_toArray, List.getElem_cons_succ, List.getElem_cons_zero, List.setIfInBounds_toArray, List.set_cons_zero, List.set_cons_succ]
    first | (refine wpAny_take (i := 23) (v := undef) rfl (by kernel_rfl) (by kernel_rfl) (by kernel_rfl) (fun _ _ _ h => h) (Or.inr ⟨by rfl, rfl⟩) ?_) | (refine wpAny_take (i := 23) (v := _) rfl (by kernel_rfl) (by kernel_rfl) (by kernel_rfl) (fun _ _ _ h => h) (Or.inl ⟨by rfl, fun w => by go_simp; try with_reducible rfl⟩) ?_)
    try simp only [Act.put, List.getElem_toArray, List.getElem_cons_succ, List.getElem_cons_zero, List.setIfInBounds_toArray, List.set_cons_zero, List.set_cons_succ]
    first | (refine wpAny_take (i := 24) (v := undef) rfl (by kernel_rfl) (by kernel_rfl) (by kernel_rfl) (fun _ _ _ h => h) (Or.inr ⟨by rfl, rfl⟩) ?_) | (refine wpAny_take (i := 24) (v := _) rfl (by kernel_rfl) (by kernel_rfl) (by kernel_rfl) (fun _ _ _ h => h) (Or.inl ⟨by rfl, fun w => by go_simp; try with_reducible rfl⟩) ?_)
    try simp only [Act.put, List.getElem_toArray, List.getElem_cons_succ, List.getElem_cons_zero, List.setIfInBounds_toArray, List.set_cons_zero, List.set_cons_succ]
    refine wpAny_done (by kernel_rfl) ?_ _
    all_goals (
      have m3 : Mk0 ((w.alloc (Obj.cells #[Value.slice a0 n0 c0, Value.slice a1 n1 c1] 35)).alloc (Obj.cells #[Value.int .i64 nd, Value.int .i64 ing, Value.int .i64 eg, Value.int .i64 exp, Value.int .i64 mac] 64)) w2 := ⟨m2.os, m2.tape, m2.output, m2.size, m2.block⟩
      clear m2
      refine ‹∀ (a : Act) (w : World), _ → _› _ _ ?_
      go_wp2_with fail
      go_ret
      exact ⟨retB HR.out.symm, ((Mk.alloc _ _).new _).trans m3⟩)
  · have hnd : 0 ≤ nd := by
      have := hk
      simp only [hopOk, decide_eq_true_eq] at this
      exact this.1.1
    obtain ⟨q, rfl⟩ : ∃ q : Nat, nd = (q : Int) := ⟨nd.toNat, by omega⟩
    have HK := Lib.hid hk
    clear hnd
    by_cases hq : q < n0
    · obtain ⟨bA, oA, y, rfl, hb, hy, d0, d1, d2⟩ := HasAS.at _ _ _ _ _ _ h hq
      have hbw := Nat.lt_of_lt_of_le hb hB
      have HF := Lib.hid hf
      have hkey := key_fits h.1 hq hz hy.out
      have HR := Lib.hid (show vhB zs n0 t b q ing eg exp mac = (mac == macV y.key (hopL t b q ing eg exp)) by unfold vhB; rw [hk, decide_eq_true (by omega), show ((q : Nat) : Int).toNat = q by omega, ← hy.out]; rfl)
      clear hk hf hz
      have M0 := (Mk.alloc w (Obj.cells #[Value.slice (some ⟨bA, oA, none⟩) n0 c0, Value.slice a1 n1 c1] 35)).new (Obj.cells #[Value.int .i64 (q : Int), Value.int .i64 ing, Value.int .i64 eg, Value.int .i64 exp, Value.int .i64 mac] 64)
      have C0 : ((w.alloc (Obj.cells #[Value.slice (some ⟨bA, oA, none⟩) n0 c0, Value.slice a1 n1 c1] 35)).alloc (Obj.cells #[Value.int .i64 (q : Int), Value.int .i64 ing, Value.int .i64 eg, Value.int .i64 exp, Value.int .i64 mac] 64)).cell? ⟨w.heap.size, 0, none⟩ = some (.slice (some ⟨bA, oA, none⟩) n0 c0) := by simp [go_sem]
      have C1 : ((w.alloc (Obj.cells #[Value.slice (some ⟨bA, oA, none⟩) n0 c0, Value.slice a1 n1 c1] 35)).alloc (Obj.cells #[Value.int .i64 (q : Int), Value.int .i64 ing, Value.int .i64 eg, Value.int .i64 exp, Value.int .i64 mac] 64)).cell? ⟨w.heap.size, 1, none⟩ = some (.slice a1 n1 c1) := by simp [go_sem]
      have C2 : ((w.alloc (Obj.cells #[Value.slice (some ⟨bA, oA, none⟩) n0 c0, Value.slice a1 n1 c1] 35)).alloc (Obj.cells #[Value.int .i64 (q : Int), Value.int .i64 ing, Value.int .i64 eg, Value.int .i64 exp, Value.int .i64 mac] 64)).cell? ⟨w.heap.size + 1, 0, none⟩ = some (.int .i64 (q : Int)) := by simp [go_sem]
      have C3 : ((w.alloc (Obj.cells #[Value.slice (some ⟨bA, oA, none⟩) n0 c0, Value.slice a1 n1 c1] 35)).alloc (Obj.cells #[Value.int .i64 (q : Int), Value.int .i64 ing, Value.int .i64 eg, Value.int .i64 exp, Value.int .i64 mac] 64)).cell? ⟨w.heap.size + 1, 1, none⟩ = some (.int .i64 ing) := by simp [go_sem]
      have C4 : ((w.alloc (Obj.cells #[Value.slice (some ⟨bA, oA, none⟩) n0 c0, Value.slice a1 n1 c1] 35)).alloc (Obj.cells #[Value.int .i64 (q : Int), Value.int .i64 ing, Value.int .i64 eg, Value.int .i64 exp, Value.int .i64 mac] 64)).cell? ⟨w.heap.size + 1, 2, none⟩ = some (.int .i64 eg) := by simp [go_sem]
      have C5 : ((w.alloc (Obj.cells #[Value.slice (some ⟨bA, oA, none⟩) n0 c0, Value.slice a1 n1 c1] 35)).alloc (Obj.cells #[Value.int .i64 (q : Int), Value.int .i64 ing, Value.int .i64 eg, Value.int .i64 exp, Value.int .i64 mac] 64)).cell? ⟨w.heap.size + 1, 3, none⟩ = some (.int .i64 exp) := by simp [go_sem]
      have C6 : ((w.alloc (Obj.cells #[Value.slice (some ⟨bA, oA, none⟩) n0 c0, Value.slice a1 n1 c1] 35)).alloc (Obj.cells #[Value.int .i64 (q : Int), Value.int .i64 ing, Value.int .i64 eg, Value.int .i64 exp, Value.int .i64 mac] 64)).cell? ⟨w.heap.size + 1, 4, none⟩ = some (.int .i64 mac) := by simp [go_sem]
      have C7 : ((w.alloc (Obj.cells #[Value.slice (some ⟨bA, oA, none⟩) n0 c0, Value.slice a1 n1 c1] 35)).alloc (Obj.cells #[Value.int .i64 (q : Int), Value.int .i64 ing, Value.int .i64 eg, Value.int .i64 exp, Value.int .i64 mac] 64)).cell? ⟨bA, oA + q * 3 + 2, none⟩ = some (.int .i64 y.key) := M0.cellAt d2
      have hq0 : (0 : Int) ≤ (q : Int) := by omega
      have hq1 : (q : Int) < (n0 : Int) := by omega
      clear d0 d1 d2
      go_enter Tryz.func79, Tryz.ntmps79
      go_wp2_with fail
      go_region_held3 (fun w' => Mk0 ((w.alloc (Obj.cells #[Value.slice (some ⟨bA, oA, none⟩) n0 c0, Value.slice a1 n1 c1] 35)).alloc (Obj.cells #[Value.int .i64 (q : Int), Value.int .i64 ing, Value.int .i64 eg, Value.int .i64 exp, Value.int .i64 mac] 64)) w' ∧ w'.cell? ⟨w.heap.size, 0, none⟩ = some (.slice (some ⟨bA, oA, none⟩) n0 c0) ∧ w'.cell? ⟨w.heap.size, 1, none⟩ = some (.slice a1 n1 c1) ∧ w'.cell? ⟨w.heap.size + 1, 0, none⟩ = some (.int .i64 (q : Int)) ∧ w'.cell? ⟨w.heap.size + 1, 1, none⟩ = some (.int .i64 ing) ∧ w'.cell? ⟨w.heap.size + 1, 2, none⟩ = some (.int .i64 eg) ∧ w'.cell? ⟨w.heap.size + 1, 3, none⟩ = some (.int .i64 exp) ∧ w'.cell? ⟨w.heap.size + 1, 4, none⟩ = some (.int .i64 mac) ∧ w'.cell? ⟨bA, oA + q * 3 + 2, none⟩ = some (.int .i64 y.key)) (first | exact ⟨Mk.drew1 _, C0, C1, C2, C3, C4, C5, C6, C7⟩ | (obtain ⟨s0, s1, s2, s3, s4, s5, s6, s7, s8⟩ := ‹Mk0 ((w.alloc (Obj.cells #[Value.slice (some ⟨bA, oA, none⟩) n0 c0, Value.slice a1 n1 c1] 35)).alloc (Obj.cells #[Value.int .i64 (q : Int), Value.int .i64 ing, Value.int .i64 eg, Value.int .i64 exp, Value.int .i64 mac] 64)) _ ∧ _›; exact ⟨s0.trans mm, mm.cellAt s1, mm.cellAt s2, mm.cellAt s3, mm.cellAt s4, mm.cellAt s5, mm.cellAt s6, mm.cellAt s7, mm.cellAt s8⟩)) (first | (go_at_call 58; refine (specVHop_true _ _ _ _ _ _ HK.out).mono ?_; rintro e w2 ⟨rfl, mm⟩) | (go_at_call 59; refine (specRealmIn _ _ _ _ _ _ _ _ hn hq0 hq1).mono ?_; rintro e w2 ⟨rfl, mm⟩) | (go_at_call 104; refine (specHopMAC _ _ _ _ _ _ _ _ _ hkey HF.out).mono ?_; rintro e w2 ⟨rfl, bb⟩; have mm := Mk.of_below bb))
      have m6 := (‹Mk0 ((w.alloc (Obj.cells #[Value.slice (some ⟨bA, oA, none⟩) n0 c0, Value.slice a1 n1 c1] 35)).alloc (Obj.cells #[Value.int .i64 (q : Int), Value.int .i64 ing, Value.int .i64 eg, Value.int .i64 exp, Value.int .i64 mac] 64)) _ ∧ _›).1
      refine ‹∀ (a : Act) (w : World), _ → _› _ _ ?_
      go_wp2_with fail
      go_ret
      exact ⟨retB HR.out.symm, M0.trans m6⟩
    · have HR := Lib.hid (show vhB zs n0 t b q ing eg exp mac = false by unfold vhB; rw [decide_eq_false (by omega)]; simp)
      clear hk hf hz
      have hq2 : (q : Int) < 0 ∨ (n0 : Int) ≤ (q : Int) := by omega
      have HQ := Lib.hid hq2
      clear hq2
      go_enter Tryz.func79, Tryz.ntmps79
      go_wp2_with fail
      refine wp_region_any (by kernel_rfl) ?_
      change wpAny _ _ _ _ _ _ _ (World.drew _)
      refine wpAny_ready (rs := [0]) (by kernel_rfl) (by simp) ?_
      refine AllReady.cons rfl (fun K hK => ?_) AllReady.nil
      go_simp
      refine hK _ _ ?_
      clear hK K
      try simp only [Act.put, List.getElem_toArray, List.getElem_cons_succ, List.getElem_cons_zero, List.setIfInBounds_toArray, List.set_cons_zero, List.set_cons_succ]
      refine wpAny_ready (rs := [1]) (by kernel_rfl) (by simp) ?_
      refine AllReady.cons rfl (fun K hK => ?_) AllReady.nil
      go_simp
      go_wp2_with (go_at_call 58; refine (specVHop_true _ _ _ _ _ _ HK.out).mono ?_; rintro e w2 ⟨rfl, m2⟩; obtain ⟨q2, r2⟩ := m2.kept)
      try simp only [Act.put, List.getElem_toArray, List.getElem_cons_succ, List.getElem_cons_zero, List.setIfInBounds_toArray, List.set_cons_zero, List.set_cons_succ]
      first | (refine wpAny_take (i := 2) (v := undef) rfl (by kernel_rfl) (by kernel_rfl) (by kernel_rfl) (fun _ _ _ h => h) (Or.inr ⟨by rfl, rfl⟩) ?_) | (refine wpAny_take (i := 2) (v := _) rfl (by kernel_rfl) (by kernel_rfl) (by kernel_rfl) (fun _ _ _ h => h) (Or.inl ⟨by rfl, fun w => by go_simp; try with_reducible rfl⟩) ?_)
      try simp only [Act.put, List.getElem_toArray, List.getElem_cons_succ, List.getElem_cons_zero, List.setIfInBounds_toArray, List.set_cons_zero, List.set_cons_succ]
      first | (refine wpAny_take (i := 4) (v := undef) rfl (by kernel_rfl) (by kernel_rfl) (by kernel_rfl) (fun _ _ _ h => h) (Or.inr ⟨by rfl, rfl⟩) ?_) | (refine wpAny_take (i := 4) (v := _) rfl (by kernel_rfl) (by kernel_rfl) (by kernel_rfl) (fun _ _ _ h => h) (Or.inl ⟨by rfl, fun w => by go_simp; try with_reducible rfl⟩) ?_)
      try simp only [Act.put, List.getElem_toArray, List.getElem_cons_succ, List.getElem_cons_zero, List.setIfInBounds_toArray, List.set_cons_zero, List.set_cons_succ]
      refine wpAny_ready (rs := [3, 5]) (by kernel_rfl) (by simp) ?_
      refine AllReady.cons rfl (fun K hK => ?_) (AllReady.cons rfl (fun K hK => ?_) AllReady.nil)
      · go_simp
        refine hK _ _ ?_
        clear hK K
        try simp only [Act.put, List.getElem_toArray, List.getElem_cons_succ, List.getElem_cons_zero, List.setIfInBounds_toArray, List.set_cons_zero, List.set_cons_succ]
        refine wpAny_ready (rs := [5]) (by kernel_rfl) (by simp) ?_
        refine AllReady.cons rfl (fun K hK => ?_) AllReady.nil
        go_simp
        refine hK _ _ ?_
        clear hK K
        try simp only [Act.put, List.getElem_toArray, List.getElem_cons_succ, List.getElem_cons_zero, List.setIfInBounds_toArray, List.set_cons_zero, List.set_cons_succ]
        refine wpAny_ready (rs := [6]) (by kernel_rfl) (by simp) ?_
        refine AllReady.cons rfl (fun K hK => ?_) AllReady.nil
        go_simp
        go_wp2_with (go_at_call 59; refine (specRealmOut _ _ _ _ _ _ _ _ hn HQ.out).mono ?_; rintro e w3 ⟨rfl, m3⟩)
        try simp only [Act.put, List.getElem_toArray, List.getElem_cons_succ, List.getElem_cons_zero, List.setIfInBounds_toArray, List.set_cons_zero, List.set_cons_succ]
        first | (refine wpAny_take (i := 7) (v := undef) rfl (by kernel_rfl) (by kernel_rfl) (by kernel_rfl) (fun _ _ _ h => h) (Or.inr ⟨by rfl, rfl⟩) ?_) | (refine wpAny_take (i := 7) (v := _) rfl (by kernel_rfl) (by kernel_rfl) (by kernel_rfl) (fun _ _ _ h => h) (Or.inl ⟨by rfl, fun w => by go_simp; try with_reducible rfl⟩) ?_)
        try simp only [Act.put, List.getElem_toArray, List.getElem_cons_succ, List.getElem_cons_zero, List.setIfInBounds_toArray, List.set_cons_zero, List.set_cons_succ]
        first | (refine wpAny_take (i := 8) (v := undef) rfl (by kernel_rfl) (by kernel_rfl) (by kernel_rfl) (fun _ _ _ h => h) (Or.inr ⟨by rfl, rfl⟩) ?_) | (refine wpAny_take (i := 8) (v := _) rfl (by kernel_rfl) (by kernel_rfl) (by kernel_rfl) (fun _ _ _ h => h) (Or.inl ⟨by rfl, fun w => by go_simp; try with_reducible rfl⟩) ?_)
        try simp only [Act.put, List.getElem_toArray, List.getElem_cons_succ, List.getElem_cons_zero, List.setIfInBounds_toArray, List.set_cons_zero, List.set_cons_succ]
        first | (refine wpAny_take (i := 9) (v := undef) rfl (by kernel_rfl) (by kernel_rfl) (by kernel_rfl) (fun _ _ _ h => h) (Or.inr ⟨by rfl, rfl⟩) ?_) | (refine wpAny_take (i := 9) (v := _) rfl (by kernel_rfl) (by kernel_rfl) (by kernel_rfl) (fun _ _ _ h => h) (Or.inl ⟨by rfl, fun w => by go_simp; try with_reducible rfl⟩) ?_)
        try simp only [Act.put, List.getElem_toArray, List.getElem_cons_succ, List.getElem_cons_zero, List.setIfInBounds_toArray, List.set_cons_zero, List.set_cons_succ]
        first | (refine wpAny_take (i := 10) (v := undef) rfl (by kernel_rfl) (by kernel_rfl) (by kernel_rfl) (fun _ _ _ h => h) (Or.inr ⟨by rfl, rfl⟩) ?_) | (refine wpAny_take (i := 10) (v := _) rfl (by kernel_rfl) (by kernel_rfl) (by kernel_rfl) (fun _ _ _ h => h) (Or.inl ⟨by rfl, fun w => by go_simp; try with_reducible rfl⟩) ?_)
        try simp only [Act.put, List.getElem_toArray, List.getElem_cons_succ, List.getElem_cons_zero, List.setIfInBounds_toArray, List.set_cons_zero, List.set_cons_succ]
        first | (refine wpAny_take (i := 11) (v := undef) rfl (by kernel_rfl) (by kernel_rfl) (by kernel_rfl) (fun _ _ _ h => h) (Or.inr ⟨by rfl, rfl⟩) ?_) | (refine wpAny_take (i := 11) (v := _) rfl (by kernel_rfl) (by kernel_rfl) (by kernel_rfl) (fun _ _ _ h => h) (Or.inl ⟨by rfl, fun w => by go_simp; try with_reducible rfl⟩) ?_)
        try simp only [Act.put, List.getElem_toArray, List.getElem_cons_succ, List.getElem_cons_zero, List.setIfInBounds_toArray, List.set_cons_zero, List.set_cons_succ]
        first | (refine wpAny_take (i := 12) (v := undef) rfl (by kernel_rfl) (by kernel_rfl) (by kernel_rfl) (fun _ _ _ h => h) (Or.inr ⟨by rfl, rfl⟩) ?_) | (refine wpAny_take (i := 12) (v := _) rfl (by kernel_rfl) (by kernel_rfl) (by kernel_rfl) (fun _ _ _ h => h) (Or.inl ⟨by rfl, fun w => by go_simp; try with_reducible rfl⟩) ?_)
        try simp only [Act.put, List.getElem_toArray, List.getElem_cons_succ, List.getElem_cons_zero, List.setIfInBounds_toArray, List.set_cons_zero, List.set_cons_succ]
        first | (refine wpAny_take (i := 13) (v := undef) rfl (by kernel_rfl) (by kernel_rfl) (by kernel_rfl) (fun _ _ _ h => h) (Or.inr ⟨by rfl, rfl⟩) ?_) | (refine wpAny_take (i := 13) (v := _) rfl (by kernel_rfl) (by kernel_rfl) (by kernel_rfl) (fun _ _ _ h => h) (Or.inl ⟨by rfl, fun w => by go_simp; try with_reducible rfl⟩) ?_)
        try simp only [Act.put, List.getElem_toArray, List.getElem_cons_succ, List.getElem_cons_zero, List.setIfInBounds_toArray, List.set_cons_zero, List.set_cons_succ]
        first | (refine wpAny_take (i := 14) (v := undef) rfl (by kernel_rfl) (by kernel_rfl) (by kernel_rfl) (fun _ _ _ h => h) (Or.inr ⟨by rfl, rfl⟩) ?_) | (refine wpAny_take (i := 14) (v := _) rfl (by kernel_rfl) (by kernel_rfl) (by kernel_rfl) (fun _ _ _ h => h) (Or.inl ⟨by rfl, fun w => by go_simp; try with_reducible rfl⟩) ?_)
        try simp only [Act.put, List.getElem_toArray, List.getElem_cons_succ, List.getElem_cons_zero, List.setIfInBounds_toArray, List.set_cons_zero, List.set_cons_succ]
        first | (refine wpAny_take (i := 15) (v := undef) rfl (by kernel_rfl) (by kernel_rfl) (by kernel_rfl) (fun _ _ _ h => h) (Or.inr ⟨by rfl, rfl⟩) ?_) | (refine wpAny_take (i := 15) (v := _) rfl (by kernel_rfl) (by kernel_rfl) (by kernel_rfl) (fun _ _ _ h => h) (Or.inl ⟨by rfl, fun w => by go_simp; try with_reducible rfl⟩) ?_)
        try simp only [Act.put, List.getElem_toArray, List.getElem_cons_succ, List.getElem_cons_zero, List.setIfInBounds_toArray, List.set_cons_zero, List.set_cons_succ]
        first | (refine wpAny_take (i := 16) (v := undef) rfl (by kernel_rfl) (by kernel_rfl) (by kernel_rfl) (fun _ _ _ h => h) (Or.inr ⟨by rfl, rfl⟩) ?_) | (refine wpAny_take (i := 16) (v := _) rfl (by kernel_rfl) (by kernel_rfl) (by kernel_rfl) (fun _ _ _ h => h) (Or.inl ⟨by rfl, fun w => by go_simp; try with_reducible rfl⟩) ?_)
        try simp only [Act.put, List.getElem_toArray, List.getElem_cons_succ, List.getElem_cons_zero, List.setIfInBounds_toArray, List.set_cons_zero, List.set_cons_succ]
        first | (refine wpAny_take (i := 17) (v := undef) rfl (by kernel_rfl) (by kernel_rfl) (by kernel_rfl) (fun _ _ _ h => h) (Or.inr ⟨by rfl, rfl⟩) ?_) | (refine wpAny_take (i := 17) (v := _) rfl (by kernel_rfl) (by kernel_rfl) (by kernel_rfl) (fun _ _ _ h => h) (Or.inl ⟨by rfl, fun w => by go_simp; try with_reducible rfl⟩) ?_)
        try simp only [Act.put, List.getElem_toArray, List.getElem_cons_succ, List.getElem_cons_zero, List.setIfInBounds_toArray, List.set_cons_zero, List.set_cons_succ]
        first | (refine wpAny_take (i := 18) (v := undef) rfl (by kernel_rfl) (by kernel_rfl) (by kernel_rfl) (fun _ _ _ h => h) (Or.inr ⟨by rfl, rfl⟩) ?_) | (refine wpAny_take (i := 18) (v := _) rfl (by kernel_rfl) (by kernel_rfl) (by kernel_rfl) (fun _ _ _ h => h) (Or.inl ⟨by rfl, fun w => by go_simp; try with_reducible rfl⟩) ?_)
        try simp only [Act.put, List.getElem_toArray, List.getElem_cons_succ, List.getElem_cons_zero, List.setIfInBounds_toArray, List.set_cons_zero, List.set_cons_succ]
        first | (refine wpAny_take (i := 19) (v := undef) rfl (by kernel_rfl) (by kernel_rfl) (by kernel_rfl) (fun _ _ _ h => h) (Or.inr ⟨by rfl, rfl⟩) ?_) | (refine wpAny_take (i := 19) (v := _) rfl (by kernel_rfl) (by kernel_rfl) (by kernel_rfl) (fun _ _ _ h => h) (Or.inl ⟨by rfl, fun w => by go_simp; try with_reducible rfl⟩) ?_)
        try simp only [Act.put, List.getElem_toArray, List.getElem_cons_succ, List.getElem_cons_zero, List.setIfInBounds_toArray, List.set_cons_zero, List.set_cons_succ]
        first | (refine wpAny_take (i := 20) (v := undef) rfl (by kernel_rfl) (by kernel_rfl) (by kernel_rfl) (fun _ _ _ h => h) (Or.inr ⟨by rfl, rfl⟩) ?_) | (refine wpAny_take (i := 20) (v := _) rfl (by kernel_rfl) (by kernel_rfl) (by kernel_rfl) (fun _ _ _ h => h) (Or.inl ⟨by rfl, fun w => by go_simp; try with_reducible rfl⟩) ?_)
        try simp only [Act.put, List.getElem_toArray, List.getElem_cons_succ, List.getElem_cons_zero, List.setIfInBounds_toArray, List.set_cons_zero, List.set_cons_succ]
        first | (refine wpAny_take (i := 21) (v := undef) rfl (by kernel_rfl) (by kernel_rfl) (by kernel_rfl) (fun _ _ _ h => h) (Or.inr ⟨by rfl, rfl⟩) ?_) | (refine wpAny_take (i := 21) (v := _) rfl (by kernel_rfl) (by kernel_rfl) (by kernel_rfl) (fun _ _ _ h => h) (Or.inl ⟨by rfl, fun w => by go_simp; try with_reducible rfl⟩) ?_)
        try simp only [Act.put, List.getElem_toArray, List.getElem_cons_succ, List.getElem_cons_zero, List.setIfInBounds_toArray, List.set_cons_zero, List.set_cons_succ]
        first | (refine wpAny_take (i := 22) (v := undef) rfl (by kernel_rfl) (by kernel_rfl) (by kernel_rfl) (fun _ _ _ h => h) (Or.inr ⟨by rfl, rfl⟩) ?_) | (refine wpAny_take (i := 22) (v := _) rfl (by kernel_rfl) (by kernel_rfl) (by kernel_rfl) (fun _ _ _ h => h) (Or.inl ⟨by rfl, fun w => by go_simp; try with_reducible rfl⟩) ?_)
        try simp only [Act.put, List.getElem_toArray, List.getElem_cons_succ, List.getElem_cons_zero, List.setIfInBounds_toArray, List.set_cons_zero, List.set_cons_succ]
        first | (refine wpAny_take (i := 23) (v := undef) rfl (by kernel_rfl) (by kernel_rfl) (by kernel_rfl) (fun _ _ _ h => h) (Or.inr ⟨by rfl, rfl⟩) ?_) | (refine wpAny_take (i := 23) (v := _) rfl (by kernel_rfl) (by kernel_rfl) (by kernel_rfl) (fun _ _ _ h => h) (Or.inl ⟨by rfl, fun w => by go_simp; try with_reducible rfl⟩) ?_)
        try simp only [Act.put, List.getElem_toArray, List.getElem_cons_succ, List.getElem_cons_zero, List.setIfInBounds_toArray, List.set_cons_zero, List.set_cons_succ]
        first | (refine wpAny_take (i := 24) (v := undef) rfl (by kernel_rfl) (by kernel_rfl) (by kernel_rfl) (fun _ _ _ h => h) (Or.inr ⟨by rfl, rfl⟩) ?_) | (refine wpAny_take (i := 24) (v := _) rfl (by kernel_rfl) (by kernel_rfl) (by kernel_rfl) (fun _ _ _ h => h) (Or.inl ⟨by rfl, fun w => by go_simp; try with_reducible rfl⟩) ?_)
        try simp only [Act.put, List.getElem_toArray, List.getElem_cons_succ, List.getElem_cons_zero, List.setIfInBounds_toArray, List.set_cons_zero, List.set_cons_succ]
        refine wpAny_done (by kernel_rfl) ?_ _
        have m4 : Mk0 ((w.alloc (Obj.cells #[Value.slice a0 n0 c0, Value.slice a1 n1 c1] 35)).alloc (Obj.cells #[Value.int .i64 (q : Int), Value.int .i64 ing, Value.int .i64 eg, Value.int .i64 exp, Value.int .i64 mac] 64)) w2 := ⟨m2.os, m2.tape, m2.output, m2.size, m2.block⟩
        have m5 : Mk0 w2 w3 := ⟨m3.os, m3.tape, m3.output, m3.size, m3.block⟩
        clear q2 r2 m2 m3
        refine ‹∀ (a : Act) (w : World), _ → _› _ _ ?_
        go_wp2_with fail
        go_ret
        exact ⟨retB HR.out.symm, ((Mk.alloc _ _).new _).trans (m4.trans m5)⟩
      · go_simp
        refine hK _ _ ?_
        clear hK K
        try simp only [Act.put, List.getElem_toArray, List.getElem_cons_succ, List.getElem_cons_zero, List.setIfInBounds_toArray, List.set_cons_zero, List.set_cons_succ]
        refine wpAny_ready (rs := [3]) (by kernel_rfl) (by simp) ?_
        refine AllReady.cons rfl (fun K hK => ?_) AllReady.nil
        go_simp
        refine hK _ _ ?_
        clear hK K
        try simp only [Act.put, List.getElem_toArray, List.getElem_cons_succ, List.getElem_cons_zero, List.setIfInBounds_toArray, List.set_cons_zero, List.set_cons_succ]
        refine wpAny_ready (rs := [6]) (by kernel_rfl) (by simp) ?_
        refine AllReady.cons rfl (fun K hK => ?_) AllReady.nil
        go_simp
        go_wp2_with (go_at_call 59; refine (specRealmOut _ _ _ _ _ _ _ _ hn HQ.out).mono ?_; rintro e w3 ⟨rfl, m3⟩)
        try simp only [Act.put, List.getElem_toArray, List.getElem_cons_succ, List.getElem_cons_zero, List.setIfInBounds_toArray, List.set_cons_zero, List.set_cons_succ]
        first | (refine wpAny_take (i := 7) (v := undef) rfl (by kernel_rfl) (by kernel_rfl) (by kernel_rfl) (fun _ _ _ h => h) (Or.inr ⟨by rfl, rfl⟩) ?_) | (refine wpAny_take (i := 7) (v := _) rfl (by kernel_rfl) (by kernel_rfl) (by kernel_rfl) (fun _ _ _ h => h) (Or.inl ⟨by rfl, fun w => by go_simp; try with_reducible rfl⟩) ?_)
        try simp only [Act.put, List.getElem_toArray, List.getElem_cons_succ, List.getElem_cons_zero, List.setIfInBounds_toArray, List.set_cons_zero, List.set_cons_succ]
        first | (refine wpAny_take (i := 8) (v := undef) rfl (by kernel_rfl) (by kernel_rfl) (by kernel_rfl) (fun _ _ _ h => h) (Or.inr ⟨by rfl, rfl⟩) ?_) | (refine wpAny_take (i := 8) (v := _) rfl (by kernel_rfl) (by kernel_rfl) (by kernel_rfl) (fun _ _ _ h => h) (Or.inl ⟨by rfl, fun w => by go_simp; try with_reducible rfl⟩) ?_)
        try simp only [Act.put, List.getElem_toArray, List.getElem_cons_succ, List.getElem_cons_zero, List.setIfInBounds_toArray, List.set_cons_zero, List.set_cons_succ]
        first | (refine wpAny_take (i := 9) (v := undef) rfl (by kernel_rfl) (by kernel_rfl) (by kernel_rfl) (fun _ _ _ h => h) (Or.inr ⟨by rfl, rfl⟩) ?_) | (refine wpAny_take (i := 9) (v := _) rfl (by kernel_rfl) (by kernel_rfl) (by kernel_rfl) (fun _ _ _ h => h) (Or.inl ⟨by rfl, fun w => by go_simp; try with_reducible rfl⟩) ?_)
        try simp only [Act.put, List.getElem_toArray, List.getElem_cons_succ, List.getElem_cons_zero, List.setIfInBounds_toArray, List.set_cons_zero, List.set_cons_succ]
        first | (refine wpAny_take (i := 10) (v := undef) rfl (by kernel_rfl) (by kernel_rfl) (by kernel_rfl) (fun _ _ _ h => h) (Or.inr ⟨by rfl, rfl⟩) ?_) | (refine wpAny_take (i := 10) (v := _) rfl (by kernel_rfl) (by kernel_rfl) (by kernel_rfl) (fun _ _ _ h => h) (Or.inl ⟨by rfl, fun w => by go_simp; try with_reducible rfl⟩) ?_)
        try simp only [Act.put, List.getElem_toArray, List.getElem_cons_succ, List.getElem_cons_zero, List.setIfInBounds_toArray, List.set_cons_zero, List.set_cons_succ]
        first | (refine wpAny_take (i := 11) (v := undef) rfl (by kernel_rfl) (by kernel_rfl) (by kernel_rfl) (fun _ _ _ h => h) (Or.inr ⟨by rfl, rfl⟩) ?_) | (refine wpAny_take (i := 11) (v := _) rfl (by kernel_rfl) (by kernel_rfl) (by kernel_rfl) (fun _ _ _ h => h) (Or.inl ⟨by rfl, fun w => by go_simp; try with_reducible rfl⟩) ?_)
        try simp only [Act.put, List.getElem_toArray, List.getElem_cons_succ, List.getElem_cons_zero, List.setIfInBounds_toArray, List.set_cons_zero, List.set_cons_succ]
        first | (refine wpAny_take (i := 12) (v := undef) rfl (by kernel_rfl) (by kernel_rfl) (by kernel_rfl) (fun _ _ _ h => h) (Or.inr ⟨by rfl, rfl⟩) ?_) | (refine wpAny_take (i := 12) (v := _) rfl (by kernel_rfl) (by kernel_rfl) (by kernel_rfl) (fun _ _ _ h => h) (Or.inl ⟨by rfl, fun w => by go_simp; try with_reducible rfl⟩) ?_)
        try simp only [Act.put, List.getElem_toArray, List.getElem_cons_succ, List.getElem_cons_zero, List.setIfInBounds_toArray, List.set_cons_zero, List.set_cons_succ]
        first | (refine wpAny_take (i := 13) (v := undef) rfl (by kernel_rfl) (by kernel_rfl) (by kernel_rfl) (fun _ _ _ h => h) (Or.inr ⟨by rfl, rfl⟩) ?_) | (refine wpAny_take (i := 13) (v := _) rfl (by kernel_rfl) (by kernel_rfl) (by kernel_rfl) (fun _ _ _ h => h) (Or.inl ⟨by rfl, fun w => by go_simp; try with_reducible rfl⟩) ?_)
        try simp only [Act.put, List.getElem_toArray, List.getElem_cons_succ, List.getElem_cons_zero, List.setIfInBounds_toArray, List.set_cons_zero, List.set_cons_succ]
        first | (refine wpAny_take (i := 14) (v := undef) rfl (by kernel_rfl) (by kernel_rfl) (by kernel_rfl) (fun _ _ _ h => h) (Or.inr ⟨by rfl, rfl⟩) ?_) | (refine wpAny_take (i := 14) (v := _) rfl (by kernel_rfl) (by kernel_rfl) (by kernel_rfl) (fun _ _ _ h => h) (Or.inl ⟨by rfl, fun w => by go_simp; try with_reducible rfl⟩) ?_)
        try simp only [Act.put, List.getElem_toArray, List.getElem_cons_succ, List.getElem_cons_zero, List.setIfInBounds_toArray, List.set_cons_zero, List.set_cons_succ]
        first | (refine wpAny_take (i := 15) (v := undef) rfl (by kernel_rfl) (by kernel_rfl) (by kernel_rfl) (fun _ _ _ h => h) (Or.inr ⟨by rfl, rfl⟩) ?_) | (refine wpAny_take (i := 15) (v := _) rfl (by kernel_rfl) (by kernel_rfl) (by kernel_rfl) (fun _ _ _ h => h) (Or.inl ⟨by rfl, fun w => by go_simp; try with_reducible rfl⟩) ?_)
        try simp only [Act.put, List.getElem_toArray, List.getElem_cons_succ, List.getElem_cons_zero, List.setIfInBounds_toArray, List.set_cons_zero, List.set_cons_succ]
        first | (refine wpAny_take (i := 16) (v := undef) rfl (by kernel_rfl) (by kernel_rfl) (by kernel_rfl) (fun _ _ _ h => h) (Or.inr ⟨by rfl, rfl⟩) ?_) | (refine wpAny_take (i := 16) (v := _) rfl (by kernel_rfl) (by kernel_rfl) (by kernel_rfl) (fun _ _ _ h => h) (Or.inl ⟨by rfl, fun w => by go_simp; try with_reducible rfl⟩) ?_)
        try simp only [Act.put, List.getElem_toArray, List.getElem_cons_succ, List.getElem_cons_zero, List.setIfInBounds_toArray, List.set_cons_zero, List.set_cons_succ]
        first | (refine wpAny_take (i := 17) (v := undef) rfl (by kernel_rfl) (by kernel_rfl) (by kernel_rfl) (fun _ _ _ h => h) (Or.inr ⟨by rfl, rfl⟩) ?_) | (refine wpAny_take (i := 17) (v := _) rfl (by kernel_rfl) (by kernel_rfl) (by kernel_rfl) (fun _ _ _ h => h) (Or.inl ⟨by rfl, fun w => by go_simp; try with_reducible rfl⟩) ?_)
        try simp only [Act.put, List.getElem_toArray, List.getElem_cons_succ, List.getElem_cons_zero, List.setIfInBounds_toArray, List.set_cons_zero, List.set_cons_succ]
        first | (refine wpAny_take (i := 18) (v := undef) rfl (by kernel_rfl) (by kernel_rfl) (by kernel_rfl) (fun _ _ _ h => h) (Or.inr ⟨by rfl, rfl⟩) ?_) | (refine wpAny_take (i := 18) (v := _) rfl (by kernel_rfl) (by kernel_rfl) (by kernel_rfl) (fun _ _ _ h => h) (Or.inl ⟨by rfl, fun w => by go_simp; try with_reducible rfl⟩) ?_)
        try simp only [Act.put, List.getElem_toArray, List.getElem_cons_succ, List.getElem_cons_zero, List.setIfInBounds_toArray, List.set_cons_zero, List.set_cons_succ]
        first | (refine wpAny_take (i := 19) (v := undef) rfl (by kernel_rfl) (by kernel_rfl) (by kernel_rfl) (fun _ _ _ h => h) (Or.inr ⟨by rfl, rfl⟩) ?_) | (refine wpAny_take (i := 19) (v := _) rfl (by kernel_rfl) (by kernel_rfl) (by kernel_rfl) (fun _ _ _ h => h) (Or.inl ⟨by rfl, fun w => by go_simp; try with_reducible rfl⟩) ?_)
        try simp only [Act.put, List.getElem_toArray, List.getElem_cons_succ, List.getElem_cons_zero, List.setIfInBounds_toArray, List.set_cons_zero, List.set_cons_succ]
        first | (refine wpAny_take (i := 20) (v := undef) rfl (by kernel_rfl) (by kernel_rfl) (by kernel_rfl) (fun _ _ _ h => h) (Or.inr ⟨by rfl, rfl⟩) ?_) | (refine wpAny_take (i := 20) (v := _) rfl (by kernel_rfl) (by kernel_rfl) (by kernel_rfl) (fun _ _ _ h => h) (Or.inl ⟨by rfl, fun w => by go_simp; try with_reducible rfl⟩) ?_)
        try simp only [Act.put, List.getElem_toArray, List.getElem_cons_succ, List.getElem_cons_zero, List.setIfInBounds_toArray, List.set_cons_zero, List.set_cons_succ]
        first | (refine wpAny_take (i := 21) (v := undef) rfl (by kernel_rfl) (by kernel_rfl) (by kernel_rfl) (fun _ _ _ h => h) (Or.inr ⟨by rfl, rfl⟩) ?_) | (refine wpAny_take (i := 21) (v := _) rfl (by kernel_rfl) (by kernel_rfl) (by kernel_rfl) (fun _ _ _ h => h) (Or.inl ⟨by rfl, fun w => by go_simp; try with_reducible rfl⟩) ?_)
        try simp only [Act.put, List.getElem_toArray, List.getElem_cons_succ, List.getElem_cons_zero, List.setIfInBounds_toArray, List.set_cons_zero, List.set_cons_succ]
        first | (refine wpAny_take (i := 22) (v := undef) rfl (by kernel_rfl) (by kernel_rfl) (by kernel_rfl) (fun _ _ _ h => h) (Or.inr ⟨by rfl, rfl⟩) ?_) | (refine wpAny_take (i := 22) (v := _) rfl (by kernel_rfl) (by kernel_rfl) (by kernel_rfl) (fun _ _ _ h => h) (Or.inl ⟨by rfl, fun w => by go_simp; try with_reducible rfl⟩) ?_)
        try simp only [Act.put, List.getElem_toArray, List.getElem_cons_succ, List.getElem_cons_zero, List.setIfInBounds_toArray, List.set_cons_zero, List.set_cons_succ]
        first | (refine wpAny_take (i := 23) (v := undef) rfl (by kernel_rfl) (by kernel_rfl) (by kernel_rfl) (fun _ _ _ h => h) (Or.inr ⟨by rfl, rfl⟩) ?_) | (refine wpAny_take (i := 23) (v := _) rfl (by kernel_rfl) (by kernel_rfl) (by kernel_rfl) (fun _ _ _ h => h) (Or.inl ⟨by rfl, fun w => by go_simp; try with_reducible rfl⟩) ?_)
        try simp only [Act.put, List.getElem_toArray, List.getElem_cons_succ, List.getElem_cons_zero, List.setIfInBounds_toArray, List.set_cons_zero, List.set_cons_succ]
        first | (refine wpAny_take (i := 24) (v := undef) rfl (by kernel_rfl) (by kernel_rfl) (by kernel_rfl) (fun _ _ _ h => h) (Or.inr ⟨by rfl, rfl⟩) ?_) | (refine wpAny_take (i := 24) (v := _) rfl (by kernel_rfl) (by kernel_rfl) (by kernel_rfl) (fun _ _ _ h => h) (Or.inl ⟨by rfl, fun w => by go_simp; try with_reducible rfl⟩) ?_)
        try simp only [Act.put, List.getElem_toArray, List.getElem_cons_succ, List.getElem_cons_zero, List.setIfInBounds_toArray, List.set_cons_zero, List.set_cons_succ]
        refine wpAny_done (by kernel_rfl) ?_ _
        have m4 : Mk0 ((w.alloc (Obj.cells #[Value.slice a0 n0 c0, Value.slice a1 n1 c1] 35)).alloc (Obj.cells #[Value.int .i64 (q : Int), Value.int .i64 ing, Value.int .i64 eg, Value.int .i64 exp, Value.int .i64 mac] 64)) w2 := ⟨m2.os, m2.tape, m2.output, m2.size, m2.block⟩
        have m5 : Mk0 w2 w3 := ⟨m3.os, m3.tape, m3.output, m3.size, m3.block⟩
        clear q2 r2 m2 m3
        refine ‹∀ (a : Act) (w : World), _ → _› _ _ ?_
        go_wp2_with fail
        go_ret
        exact ⟨retB HR.out.symm, ((Mk.alloc _ _).new _).trans (m4.trans m5)⟩

set_option maxRecDepth 100000 in
set_option maxHeartbeats 4000000 in
theorem implVerify (a0 a1 : Option Addr) (n0 c0 n1 c1 B : Nat) (zs : List TAS) (t b nd ing eg exp mac : Int) (w : World) (h : HasAS w B a0 n0 zs) (hB : B ≤ w.heap.size) (hn : n0 ≤ 1048576) (hz : ∀ y ∈ zs, TAS.fits y) (hf : ∀ z ∈ hopL t b nd ing eg exp, (Lit.int .i64 z).wf = true) :
    Calls Tryz.prog 108 #[.agg #[.slice a0 n0 c0, .slice a1 n1 c1], .int .i64 t, .int .i64 b, .agg #[.int .i64 nd, .int .i64 ing, .int .i64 eg, .int .i64 exp, .int .i64 mac]] w fun e w' => e = .returned (.bool (vhB zs n0 t b nd ing eg exp mac)) ∧ Mk0 w w' := by
  cases hk : hopOk ⟨nd, ing, eg, exp, mac⟩
  · have HR := Lib.hid (show vhB zs n0 t b nd ing eg exp mac = false by unfold vhB; rw [hk]; rfl)
    have HK := Lib.hid hk
    clear hk hf hz
    go_enter Tryz.func108, Tryz.ntmps108
    go_wp2_with fail
    refine wp_region_any (by kernel_rfl) ?_
    change wpAny _ _ _ _ _ _ _ (World.drew _)
    refine wpAny_ready (rs := [0]) (by kernel_rfl) (by simp) ?_
    refine AllReady.cons rfl (fun K hK => ?_) AllReady.nil
    go_simp
    refine hK _ _ ?_
    clear hK K
    try simp only [Act.put, List.getElem_toArray, List.getElem_cons_succ, List.getElem_cons_zero, List.setIfInBounds_toArray, List.set_cons_zero, List.set_cons_succ]
    refine wpAny_ready (rs := [1]) (by kernel_rfl) (by simp) ?_
    refine AllReady.cons rfl (fun K hK => ?_) AllReady.nil
    go_simp
    go_wp2_with (go_at_call 67; refine (implVHop_false _ _ _ _ _ _ HK.out).mono ?_; rintro e w2 ⟨rfl, m2⟩)
    try simp only [Act.put, List.getElem_toArray, List.getElem_cons_succ, List.getElem_cons_zero, List.setIfInBounds_toArray, List.set_cons_zero, List.set_cons_succ]
    first | (refine wpAny_take (i := 2) (v := undef) rfl (by kernel_rfl) (by kernel_rfl) (by kernel_rfl) (fun _ _ _ h => h) (Or.inr ⟨by rfl, rfl⟩) ?_) | (refine wpAny_take (i := 2) (v := _) rfl (by kernel_rfl) (by kernel_rfl) (by kernel_rfl) (fun _ _ _ h => h) (Or.inl ⟨by rfl, fun w => by go_simp; try with_reducible rfl⟩) ?_)
    try simp only [Act.put, List.getElem_toArray, List.getElem_cons_succ, List.getElem_cons_zero, List.setIfInBounds_toArray, List.set_cons_zero, List.set_cons_succ]
    first | (refine wpAny_take (i := 3) (v := undef) rfl (by kernel_rfl) (by kernel_rfl) (by kernel_rfl) (fun _ _ _ h => h) (Or.inr ⟨by rfl, rfl⟩) ?_) | (refine wpAny_take (i := 3) (v := _) rfl (by kernel_rfl) (by kernel_rfl) (by kernel_rfl) (fun _ _ _ h => h) (Or.inl ⟨by rfl, fun w => by go_simp; try with_reducible rfl⟩) ?_)
    try simp only [Act.put, List.getElem_toArray, List.getElem_cons_succ, List.getElem_cons_zero, List.setIfInBounds_toArray, List.set_cons_zero, List.set_cons_succ]
    first | (refine wpAny_take (i := 4) (v := undef) rfl (by kernel_rfl) (by kernel_rfl) (by kernel_rfl) (fun _ _ _ h => h) (Or.inr ⟨by rfl, rfl⟩) ?_) | (refine wpAny_take (i := 4) (v := _) rfl (by kernel_rfl) (by kernel_rfl) (by kernel_rfl) (fun _ _ _ h => h) (Or.inl ⟨by rfl, fun w => by go_simp; try with_reducible rfl⟩) ?_)
    try simp only [Act.put, List.getElem_toArray, List.getElem_cons_succ, List.getElem_cons_zero, List.setIfInBounds_toArray, List.set_cons_zero, List.set_cons_succ]
    first | (refine wpAny_take (i := 5) (v := undef) rfl (by kernel_rfl) (by kernel_rfl) (by kernel_rfl) (fun _ _ _ h => h) (Or.inr ⟨by rfl, rfl⟩) ?_) | (refine wpAny_take (i := 5) (v := _) rfl (by kernel_rfl) (by kernel_rfl) (by kernel_rfl) (fun _ _ _ h => h) (Or.inl ⟨by rfl, fun w => by go_simp; try with_reducible rfl⟩) ?_)
    try simp only [Act.put, List.getElem_toArray, List.getElem_cons_succ, List.getElem_cons_zero, List.setIfInBounds_toArray, List.set_cons_zero, List.set_cons_succ]
    first | (refine wpAny_take (i := 6) (v := undef) rfl (by kernel_rfl) (by kernel_rfl) (by kernel_rfl) (fun _ _ _ h => h) (Or.inr ⟨by rfl, rfl⟩) ?_) | (refine wpAny_take (i := 6) (v := _) rfl (by kernel_rfl) (by kernel_rfl) (by kernel_rfl) (fun _ _ _ h => h) (Or.inl ⟨by rfl, fun w => by go_simp; try with_reducible rfl⟩) ?_)
    try simp only [Act.put, List.getElem_toArray, List.getElem_cons_succ, List.getElem_cons_zero, List.setIfInBounds_toArray, List.set_cons_zero, List.set_cons_succ]
    first | (refine wpAny_take (i := 7) (v := undef) rfl (by kernel_rfl) (by kernel_rfl) (by kernel_rfl) (fun _ _ _ h => h) (Or.inr ⟨by rfl, rfl⟩) ?_) | (refine wpAny_take (i := 7) (v := _) rfl (by kernel_rfl) (by kernel_rfl) (by kernel_rfl) (fun _ _ _ h => h) (Or.inl ⟨by rfl, fun w => by go_simp; try with_reducible rfl⟩) ?_)
    try simp only [Act.put, List.getElem_toArray, List.getElem_cons_succ, List.getElem_cons_zero, List.setIfInBounds_toArray, List.set_cons_zero, List.set_cons_succ]
    first | (refine wpAny_take (i := 8) (v := undef) rfl (by kernel_rfl) (by kernel_rfl) (by kernel_rfl) (fun _ _ _ h => h) (Or.inr ⟨by rfl, rfl⟩) ?_) | (refine wpAny_take (i := 8) (v := _) rfl (by kernel_rfl) (by kernel_rfl) (by kernel_rfl) (fun _ _ _ h => h) (Or.inl ⟨by rfl, fun w => by go_simp; try with_reducible rfl⟩) ?_)
    try simp only [Act.put, List.getElem_toArray, List.getElem_cons_succ, List.getElem_cons_zero, List.setIfInBounds_toArray, List.set_cons_zero, List.set_cons_succ]
    first | (refine wpAny_take (i := 9) (v := undef) rfl (by kernel_rfl) (by kernel_rfl) (by kernel_rfl) (fun _ _ _ h => h) (Or.inr ⟨by rfl, rfl⟩) ?_) | (refine wpAny_take (i := 9) (v := _) rfl (by kernel_rfl) (by kernel_rfl) (by kernel_rfl) (fun _ _ _ h => h) (Or.inl ⟨by rfl, fun w => by go_simp; try with_reducible rfl⟩) ?_)
    try simp only [Act.put, List.getElem_toArray, List.getElem_cons_succ, List.getElem_cons_zero, List.setIfInBounds_toArray, List.set_cons_zero, List.set_cons_succ]
    first | (refine wpAny_take (i := 10) (v := undef) rfl (by kernel_rfl) (by kernel_rfl) (by kernel_rfl) (fun _ _ _ h => h) (Or.inr ⟨by rfl, rfl⟩) ?_) | (refine wpAny_take (i := 10) (v := _) rfl (by kernel_rfl) (by kernel_rfl) (by kernel_rfl) (fun _ _ _ h => h) (Or.inl ⟨by rfl, fun w => by go_simp; try with_reducible rfl⟩) ?_)
    try simp only [Act.put, List.getElem_toArray, List.getElem_cons_succ, List.getElem_cons_zero, List.setIfInBounds_toArray, List.set_cons_zero, List.set_cons_succ]
    first | (refine wpAny_take (i := 11) (v := undef) rfl (by kernel_rfl) (by kernel_rfl) (by kernel_rfl) (fun _ _ _ h => h) (Or.inr ⟨by rfl, rfl⟩) ?_) | (refine wpAny_take (i := 11) (v := _) rfl (by kernel_rfl) (by kernel_rfl) (by kernel_rfl) (fun _ _ _ h => h) (Or.inl ⟨by rfl, fun w => by go_simp; try with_reducible rfl⟩) ?_)
    try simp only [Act.put, List.getElem_toArray, List.getElem_cons_succ, List.getElem_cons_zero, List.setIfInBounds_toArray, List.set_cons_zero, List.set_cons_succ]
    first | (refine wpAny_take (i := 12) (v := undef) rfl (by kernel_rfl) (by kernel_rfl) (by kernel_rfl) (fun _ _ _ h => h) (Or.inr ⟨by rfl, rfl⟩) ?_) | (refine wpAny_take (i := 12) (v := _) rfl (by kernel_rfl) (by kernel_rfl) (by kernel_rfl) (fun _ _ _ h => h) (Or.inl ⟨by rfl, fun w => by go_simp; try with_reducible rfl⟩) ?_)
    try simp only [Act.put, List.getElem_toArray, List.getElem_cons_succ, List.getElem_cons_zero, List.setIfInBounds_toArray, List.set_cons_zero, List.set_cons_succ]
    first | (refine wpAny_take (i := 13) (v := undef) rfl (by kernel_rfl) (by kernel_rfl) (by kernel_rfl) (fun _ _ _ h => h) (Or.inr ⟨by rfl, rfl⟩) ?_) | (refine wpAny_take (i := 13) (v := _) rfl (by kernel_rfl) (by kernel_rfl) (by kernel_rfl) (fun _ _ _ h => h) (Or.inl ⟨by rfl, fun w => by go_simp; try with_reducible rfl⟩) ?_)
    try simp only [Act.put, List.getElem_toArray, List.getElem_cons_succ, List.getElem_cons_zero, List.setIfInBounds_toArray, List.set_cons_zero, List.set_cons_succ]
    first | (refine wpAny_take (i := 14) (v := undef) rfl (by kernel_rfl) (by kernel_rfl) (by kernel_rfl) (fun _ _ _ h => h) (Or.inr ⟨by rfl, rfl⟩) ?_) | (refine wpAny_take (i := 14) (v := _) rfl (by kernel_rfl) (by kernel_rfl) (by kernel_rfl) (fun _ _ _ h => h) (Or.inl ⟨by rfl, fun w => by go_simp; try with_reducible rfl⟩) ?_)
    try simp only [Act.put, List.getElem_toArray, List.getElem_cons_succ, List.getElem_cons_zero, List.setIfInBounds_toArray, List.set_cons_zero, List.set_cons_succ]
    first | (refine wpAny_take (i := 15) (v := undef) rfl (by kernel_rfl) (by kernel_rfl) (by kernel_rfl) (fun _ _ _ h => h) (Or.inr ⟨by rfl, rfl⟩) ?_) | (refine wpAny_take (i := 15) (v := _) rfl (by kernel_rfl) (by kernel_rfl) (by kernel_rfl) (fun _ _ _ h => h) (Or.inl ⟨by rfl, fun w => by go_simp; try with_reducible rfl⟩) ?_)
    try simp only [Act.put, List.getElem_toArray, List.getElem_cons_succ, List.getElem_cons_zero, List.setIfInBounds_toArray, List.set_cons_zero, List.set_cons_succ]
    first | (refine wpAny_take (i := 16) (v := undef) rfl (by kernel_rfl) (by kernel_rfl) (by kernel_rfl) (fun _ _ _ h => h) (Or.inr ⟨by rfl, rfl⟩) ?_) | (refine wpAny_take (i := 16) (v := _) rfl (by kernel_rfl) (by kernel_rfl) (by kernel_rfl) (fun _ _ _ h => h) (Or.inl ⟨by rfl, fun w => by go_simp; try with_reducible rfl⟩) ?_)
    try simp only [Act.put, List.getElem_toArray, List.getElem_cons_succ, List.getElem_cons_zero, List.setIfInBounds_toArray, List.set_cons_zero, List.set_cons_succ]
    first | (refine wpAny_take (i := 17) (v := undef) rfl (by kernel_rfl) (by kernel_rfl) (by kernel_rfl) (fun _ _ _ h => h) (Or.inr ⟨by rfl, rfl⟩) ?_) | (refine wpAny_take (i := 17) (v := _) rfl (by kernel_rfl) (by kernel_rfl) (by kernel_rfl) (fun _ _ _ h => h) (Or.inl ⟨by rfl, fun w => by go_simp; try with_reducible rfl⟩) ?_)
    try simp only [Act.put, List.getElem_toArray, List.getElem_cons_succ, List.getElem_cons_zero, List.setIfInBounds_toArray, List.set_cons_zero, List.set_cons_succ]
    first | (refine wpAny_take (i := 18) (v := undef) rfl (by kernel_rfl) (by kernel_rfl) (by kernel_rfl) (fun _ _ _ h => h) (Or.inr ⟨by rfl, rfl⟩) ?_) | (refine wpAny_take (i := 18) (v := _) rfl (by kernel_rfl) (by kernel_rfl) (by kernel_rfl) (fun _ _ _ h => h) (Or.inl ⟨by rfl, fun w => by go_simp; try with_reducible rfl⟩) ?_)
    try simp only [Act.put, List.getElem_toArray, List.getElem_cons_succ, List.getElem_cons_zero, List.setIfInBounds_toArray, List.set_cons_zero, List.set_cons_succ]
    first | (refine wpAny_take (i := 19) (v := undef) rfl (by kernel_rfl) (by kernel_rfl) (by kernel_rfl) (fun _ _ _ h => h) (Or.inr ⟨by rfl, rfl⟩) ?_) | (refine wpAny_take (i := 19) (v := _) rfl (by kernel_rfl) (by kernel_rfl) (by kernel_rfl) (fun _ _ _ h => h) (Or.inl ⟨by rfl, fun w => by go_simp; try with_reducible rfl⟩) ?_)
    try simp only [Act.put, List.getElem_toArray, List.getElem_cons_succ, List.getElem_cons_zero, List.setIfInBounds_toArray, List.set_cons_zero, List.set_cons_succ]
    first | (refine wpAny_take (i := 20) (v := undef) rfl (by kernel_rfl) (by kernel_rfl) (by kernel_rfl) (fun _ _ _ h => h) (Or.inr ⟨by rfl, rfl⟩) ?_) | (refine wpAny_take (i := 20) (v := _) rfl (by kernel_rfl) (by kernel_rfl) (by kernel_rfl) (fun _ _ _ h => h) (Or.inl ⟨by rfl, fun w => by go_simp; try with_reducible rfl⟩) ?_)
    try simp only [Act.put, List.getElem_toArray, List.getElem_cons_succ, List.getElem_cons_zero, List.setIfInBounds_toArray, List.set_cons_zero, List.set_cons_succ]
    first | (refine wpAny_take (i := 21) (v := undef) rfl (by kernel_rfl) (by kernel_rfl) (by kernel_rfl) (fun _ _ _ h => h) (Or.inr ⟨by rfl, rfl⟩) ?_) | (refine wpAny_take (i := 21) (v := _) rfl (by kernel_rfl) (by kernel_rfl) (by kernel_rfl) (fun _ _ _ h => h) (Or.inl ⟨by rfl, fun w => by go_simp; try with_reducible rfl⟩) ?_)
    try simp only [Act.put, List.getElem_toArray, List.getElem_cons_succ, List.getElem_cons_zero, List.setIfInBounds_toArray, List.set_cons_zero, List.set_cons_succ]
    first | (refine wpAny_take (i := 22) (v := undef) rfl (by kernel_rfl) (by kernel_rfl) (by kernel_rfl) (fun _ _ _ h => h) (Or.inr ⟨by rfl, rfl⟩) ?_) | (refine wpAny_take (i := 22) (v := _) rfl (by kernel_rfl) (by kernel_rfl) (by kernel_rfl) (fun _ _ _ h => h) (Or.inl ⟨by rfl, fun w => by go_simp; try with_reducible rfl⟩) ?_)
    try simp only [Act.put, List.getElem_toArray, List.getElem_cons_succ, List.getElem_cons_zero, List.setIfInBounds_toArray, List.set_cons_zero, List.set_cons_succ]
    first | (refine wpAny_take (i := 23) (v := undef) rfl (by kernel_rfl) (by kernel_rfl) (by kernel_rfl) (fun _ _ _ h => h) (Or.inr ⟨by rfl, rfl⟩) ?_) | (refine wpAny_take (i := 23) (v := _) rfl (by kernel_rfl) (by kernel_rfl) (by kernel_rfl) (fun _ _ _ h => h) (Or.inl ⟨by rfl, fun w => by go_simp; try with_reducible rfl⟩) ?_)
    try simp only [Act.put, List.getElem_toArray, List.getElem_cons_succ, List.getElem_cons_zero, List.setIfInBounds_toArray, List.set_cons_zero, List.set_cons_succ]
    first | (refine wpAny_take (i := 24) (v := undef) rfl (by kernel_rfl) (by kernel_rfl) (by kernel_rfl) (fun _ _ _ h => h) (Or.inr ⟨by rfl, rfl⟩) ?_) | (refine wpAny_take (i := 24) (v := _) rfl (by kernel_rfl) (by kernel_rfl) (by kernel_rfl) (fun _ _ _ h => h) (Or.inl ⟨by rfl, fun w => by go_simp; try with_reducible rfl⟩) ?_)
    try simp only [Act.put, List.getElem_toArray, List.getElem_cons_succ, List.getElem_cons_zero, List.setIfInBounds_toArray, List.set_cons_zero, List.set_cons_succ]
    refine wpAny_done (by kernel_rfl) ?_ _
    all_goals (
      have m3 : Mk0 ((w.alloc (Obj.cells #[Value.slice a0 n0 c0, Value.slice a1 n1 c1] 35)).alloc (Obj.cells #[Value.int .i64 nd, Value.int .i64 ing, Value.int .i64 eg, Value.int .i64 exp, Value.int .i64 mac] 64)) w2 := ⟨m2.os, m2.tape, m2.output, m2.size, m2.block⟩
      clear m2
      refine ‹∀ (a : Act) (w : World), _ → _› _ _ ?_
      go_wp2_with fail
      go_ret
      exact ⟨retB HR.out.symm, ((Mk.alloc _ _).new _).trans m3⟩)
  · have hnd : 0 ≤ nd := by
      have := hk
      simp only [hopOk, decide_eq_true_eq] at this
      exact this.1.1
    obtain ⟨q, rfl⟩ : ∃ q : Nat, nd = (q : Int) := ⟨nd.toNat, by omega⟩
    have HK := Lib.hid hk
    clear hnd
    by_cases hq : q < n0
    · obtain ⟨bA, oA, y, rfl, hb, hy, d0, d1, d2⟩ := HasAS.at _ _ _ _ _ _ h hq
      have hbw := Nat.lt_of_lt_of_le hb hB
      have HF := Lib.hid hf
      have hkey := key_fits h.1 hq hz hy.out
      have HR := Lib.hid (show vhB zs n0 t b q ing eg exp mac = (mac == macV y.key (hopL t b q ing eg exp)) by unfold vhB; rw [hk, decide_eq_true (by omega), show ((q : Nat) : Int).toNat = q by omega, ← hy.out]; rfl)
      clear hk hf hz
      have M0 := (Mk.alloc w (Obj.cells #[Value.slice (some ⟨bA, oA, none⟩) n0 c0, Value.slice a1 n1 c1] 35)).new (Obj.cells #[Value.int .i64 (q : Int), Value.int .i64 ing, Value.int .i64 eg, Value.int .i64 exp, Value.int .i64 mac] 64)
      have C0 : ((w.alloc (Obj.cells #[Value.slice (some ⟨bA, oA, none⟩) n0 c0, Value.slice a1 n1 c1] 35)).alloc (Obj.cells #[Value.int .i64 (q : Int), Value.int .i64 ing, Value.int .i64 eg, Value.int .i64 exp, Value.int .i64 mac] 64)).cell? ⟨w.heap.size, 0, none⟩ = some (.slice (some ⟨bA, oA, none⟩) n0 c0) := by simp [go_sem]
      have C1 : ((w.alloc (Obj.cells #[Value.slice (some ⟨bA, oA, none⟩) n0 c0, Value.slice a1 n1 c1] 35)).alloc (Obj.cells #[Value.int .i64 (q : Int), Value.int .i64 ing, Value.int .i64 eg, Value.int .i64 exp, Value.int .i64 mac] 64)).cell? ⟨w.heap.size, 1, none⟩ = some (.slice a1 n1 c1) := by simp [go_sem]
      have C2 : ((w.alloc (Obj.cells #[Value.slice (some ⟨bA, oA, none⟩) n0 c0, Value.slice a1 n1 c1] 35)).alloc (Obj.cells #[Value.int .i64 (q : Int), Value.int .i64 ing, Value.int .i64 eg, Value.int .i64 exp, Value.int .i64 mac] 64)).cell? ⟨w.heap.size + 1, 0, none⟩ = some (.int .i64 (q : Int)) := by simp [go_sem]
      have C3 : ((w.alloc (Obj.cells #[Value.slice (some ⟨bA, oA, none⟩) n0 c0, Value.slice a1 n1 c1] 35)).alloc (Obj.cells #[Value.int .i64 (q : Int), Value.int .i64 ing, Value.int .i64 eg, Value.int .i64 exp, Value.int .i64 mac] 64)).cell? ⟨w.heap.size + 1, 1, none⟩ = some (.int .i64 ing) := by simp [go_sem]
      have C4 : ((w.alloc (Obj.cells #[Value.slice (some ⟨bA, oA, none⟩) n0 c0, Value.slice a1 n1 c1] 35)).alloc (Obj.cells #[Value.int .i64 (q : Int), Value.int .i64 ing, Value.int .i64 eg, Value.int .i64 exp, Value.int .i64 mac] 64)).cell? ⟨w.heap.size + 1, 2, none⟩ = some (.int .i64 eg) := by simp [go_sem]
      have C5 : ((w.alloc (Obj.cells #[Value.slice (some ⟨bA, oA, none⟩) n0 c0, Value.slice a1 n1 c1] 35)).alloc (Obj.cells #[Value.int .i64 (q : Int), Value.int .i64 ing, Value.int .i64 eg, Value.int .i64 exp, Value.int .i64 mac] 64)).cell? ⟨w.heap.size + 1, 3, none⟩ = some (.int .i64 exp) := by simp [go_sem]
      have C6 : ((w.alloc (Obj.cells #[Value.slice (some ⟨bA, oA, none⟩) n0 c0, Value.slice a1 n1 c1] 35)).alloc (Obj.cells #[Value.int .i64 (q : Int), Value.int .i64 ing, Value.int .i64 eg, Value.int .i64 exp, Value.int .i64 mac] 64)).cell? ⟨w.heap.size + 1, 4, none⟩ = some (.int .i64 mac) := by simp [go_sem]
      have C7 : ((w.alloc (Obj.cells #[Value.slice (some ⟨bA, oA, none⟩) n0 c0, Value.slice a1 n1 c1] 35)).alloc (Obj.cells #[Value.int .i64 (q : Int), Value.int .i64 ing, Value.int .i64 eg, Value.int .i64 exp, Value.int .i64 mac] 64)).cell? ⟨bA, oA + q * 3 + 2, none⟩ = some (.int .i64 y.key) := M0.cellAt d2
      have hq0 : (0 : Int) ≤ (q : Int) := by omega
      have hq1 : (q : Int) < (n0 : Int) := by omega
      clear d0 d1 d2
      go_enter Tryz.func108, Tryz.ntmps108
      go_wp2_with fail
      go_region_held3 (fun w' => Mk0 ((w.alloc (Obj.cells #[Value.slice (some ⟨bA, oA, none⟩) n0 c0, Value.slice a1 n1 c1] 35)).alloc (Obj.cells #[Value.int .i64 (q : Int), Value.int .i64 ing, Value.int .i64 eg, Value.int .i64 exp, Value.int .i64 mac] 64)) w' ∧ w'.cell? ⟨w.heap.size, 0, none⟩ = some (.slice (some ⟨bA, oA, none⟩) n0 c0) ∧ w'.cell? ⟨w.heap.size, 1, none⟩ = some (.slice a1 n1 c1) ∧ w'.cell? ⟨w.heap.size + 1, 0, none⟩ = some (.int .i64 (q : Int)) ∧ w'.cell? ⟨w.heap.size + 1, 1, none⟩ = some (.int .i64 ing) ∧ w'.cell? ⟨w.heap.size + 1, 2, none⟩ = some (.int .i64 eg) ∧ w'.cell? ⟨w.heap.size + 1, 3, none⟩ = some (.int .i64 exp) ∧ w'.cell? ⟨w.heap.size + 1, 4, none⟩ = some (.int .i64 mac) ∧ w'.cell? ⟨bA, oA + q * 3 + 2, none⟩ = some (.int .i64 y.key)) (first | exact ⟨Mk.drew1 _, C0, C1, C2, C3, C4, C5, C6, C7⟩ | (obtain ⟨s0, s1, s2, s3, s4, s5, s6, s7, s8⟩ := ‹Mk0 ((w.alloc (Obj.cells #[Value.slice (some ⟨bA, oA, none⟩) n0 c0, Value.slice a1 n1 c1] 35)).alloc (Obj.cells #[Value.int .i64 (q : Int), Value.int .i64 ing, Value.int .i64 eg, Value.int .i64 exp, Value.int .i64 mac] 64)) _ ∧ _›; exact ⟨s0.trans mm, mm.cellAt s1, mm.cellAt s2, mm.cellAt s3, mm.cellAt s4, mm.cellAt s5, mm.cellAt s6, mm.cellAt s7, mm.cellAt s8⟩)) (first | (go_at_call 67; refine (implVHop_true _ _ _ _ _ _ HK.out).mono ?_; rintro e w2 ⟨rfl, mm⟩) | (go_at_call 68; refine (implRealmIn _ _ _ _ _ _ _ _ hn hq0 hq1).mono ?_; rintro e w2 ⟨rfl, mm⟩) | (go_at_call 124; refine (implHopMAC _ _ _ _ _ _ _ _ _ hkey HF.out).mono ?_; rintro e w2 ⟨rfl, bb⟩; have mm := Mk.of_below bb))
      have m6 := (‹Mk0 ((w.alloc (Obj.cells #[Value.slice (some ⟨bA, oA, none⟩) n0 c0, Value.slice a1 n1 c1] 35)).alloc (Obj.cells #[Value.int .i64 (q : Int), Value.int .i64 ing, Value.int .i64 eg, Value.int .i64 exp, Value.int .i64 mac] 64)) _ ∧ _›).1
      refine ‹∀ (a : Act) (w : World), _ → _› _ _ ?_
      go_wp2_with fail
      go_ret
      exact ⟨retB HR.out.symm, M0.trans m6⟩
    · have HR := Lib.hid (show vhB zs n0 t b q ing eg exp mac = false by unfold vhB; rw [decide_eq_false (by omega)]; simp)
      clear hk hf hz
      have hq2 : (q : Int) < 0 ∨ (n0 : Int) ≤ (q : Int) := by omega
      have HQ := Lib.hid hq2
      clear hq2
      go_enter Tryz.func108, Tryz.ntmps108
      go_wp2_with fail
      refine wp_region_any (by kernel_rfl) ?_
      change wpAny _ _ _ _ _ _ _ (World.drew _)
      refine wpAny_ready (rs := [0]) (by kernel_rfl) (by simp) ?_
      refine AllReady.cons rfl (fun K hK => ?_) AllReady.nil
      go_simp
      refine hK _ _ ?_
      clear hK K
      try simp only [Act.put, List.getElem_toArray, List.getElem_cons_succ, List.getElem_cons_zero, List.setIfInBounds_toArray, List.set_cons_zero, List.set_cons_succ]
      refine wpAny_ready (rs := [1]) (by kernel_rfl) (by simp) ?_
      refine AllReady.cons rfl (fun K hK => ?_) AllReady.nil
      go_simp
      go_wp2_with (go_at_call 67; refine (implVHop_true _ _ _ _ _ _ HK.out).mono ?_; rintro e w2 ⟨rfl, m2⟩; obtain ⟨q2, r2⟩ := m2.kept)
      try simp only [Act.put, List.getElem_toArray, List.getElem_cons_succ, List.getElem_cons_zero, List.setIfInBounds_toArray, List.set_cons_zero, List.set_cons_succ]
      first | (refine wpAny_take (i := 2) (v := undef) rfl (by kernel_rfl) (by kernel_rfl) (by kernel_rfl) (fun _ _ _ h => h) (Or.inr ⟨by rfl, rfl⟩) ?_) | (refine wpAny_take (i := 2) (v := _) rfl (by kernel_rfl) (by kernel_rfl) (by kernel_rfl) (fun _ _ _ h => h) (Or.inl ⟨by rfl, fun w => by go_simp; try with_reducible rfl⟩) ?_)
      try simp only [Act.put, List.getElem_toArray, List.getElem_cons_succ, List.getElem_cons_zero, List.setIfInBounds_toArray, List.set_cons_zero, List.set_cons_succ]
      first | (refine wpAny_take (i := 4) (v := undef) rfl (by kernel_rfl) (by kernel_rfl) (by kernel_rfl) (fun _ _ _ h => h) (Or.inr ⟨by rfl, rfl⟩) ?_) | (refine wpAny_take (i := 4) (v := _) rfl (by kernel_rfl) (by kernel_rfl) (by kernel_rfl) (fun _ _ _ h => h) (Or.inl ⟨by rfl, fun w => by go_simp; try with_reducible rfl⟩) ?_)
      try simp only [Act.put, List.getElem_toArray, List.getElem_cons_succ, List.getElem_cons_zero, List.setIfInBounds_toArray, List.set_cons_zero, List.set_cons_succ]
      refine wpAny_ready (rs := [3, 5]) (by kernel_rfl) (by simp) ?_
      refine AllReady.cons rfl (fun K hK => ?_) (AllReady.cons rfl (fun K hK => ?_) AllReady.nil)
      · go_simp
        refine hK _ _ ?_
        clear hK K
        try simp only [Act.put, List.getElem_toArray, List.getElem_cons_succ, List.getElem_cons_zero, List.setIfInBounds_toArray, List.set_cons_zero, List.set_cons_succ]
        refine wpAny_ready (rs := [5]) (by kernel_rfl) (by simp) ?_
        refine AllReady.cons rfl (fun K hK => ?_) AllReady.nil
        go_simp
        refine hK _ _ ?_
        clear hK K
        try simp only [Act.put, List.getElem_toArray, List.getElem_cons_succ, List.getElem_cons_zero, List.setIfInBounds_toArray, List.set_cons_zero, List.set_cons_succ]
        refine wpAny_ready (rs := [6]) (by kernel_rfl) (by simp) ?_
        refine AllReady.cons rfl (fun K hK => ?_) AllReady.nil
        go_simp
        go_wp2_with (go_at_call 68; refine (implRealmOut _ _ _ _ _ _ _ _ hn HQ.out).mono ?_; rintro e w3 ⟨rfl, m3⟩)
        try simp only [Act.put, List.getElem_toArray, List.getElem_cons_succ, List.getElem_cons_zero, List.setIfInBounds_toArray, List.set_cons_zero, List.set_cons_succ]
        first | (refine wpAny_take (i := 7) (v := undef) rfl (by kernel_rfl) (by kernel_rfl) (by kernel_rfl) (fun _ _ _ h => h) (Or.inr ⟨by rfl, rfl⟩) ?_) | (refine wpAny_take (i := 7) (v := _) rfl (by kernel_rfl) (by kernel_rfl) (by kernel_rfl) (fun _ _ _ h => h) (Or.inl ⟨by rfl, fun w => by go_simp; try with_reducible rfl⟩) ?_)
        try simp only [Act.put, List.getElem_toArray, List.getElem_cons_succ, List.getElem_cons_zero, List.setIfInBounds_toArray, List.set_cons_zero, List.set_cons_succ]
        first | (refine wpAny_take (i := 8) (v := undef) rfl (by kernel_rfl) (by kernel_rfl) (by kernel_rfl) (fun _ _ _ h => h) (Or.inr ⟨by rfl, rfl⟩) ?_) | (refine wpAny_take (i := 8) (v := _) rfl (by kernel_rfl) (by kernel_rfl) (by kernel_rfl) (fun _ _ _ h => h) (Or.inl ⟨by rfl, fun w => by go_simp; try with_reducible rfl⟩) ?_)
        try simp only [Act.put, List.getElem_toArray, List.getElem_cons_succ, List.getElem_cons_zero, List.setIfInBounds_toArray, List.set_cons_zero, List.set_cons_succ]
        first | (refine wpAny_take (i := 9) (v := undef) rfl (by kernel_rfl) (by kernel_rfl) (by kernel_rfl) (fun _ _ _ h => h) (Or.inr ⟨by rfl, rfl⟩) ?_) | (refine wpAny_take (i := 9) (v := _) rfl (by kernel_rfl) (by kernel_rfl) (by kernel_rfl) (fun _ _ _ h => h) (Or.inl ⟨by rfl, fun w => by go_simp; try with_reducible rfl⟩) ?_)
        try simp only [Act.put, List.getElem_toArray, List.getElem_cons_succ, List.getElem_cons_zero, List.setIfInBounds_toArray, List.set_cons_zero, List.set_cons_succ]
        first | (refine wpAny_take (i := 10) (v := undef) rfl (by kernel_rfl) (by kernel_rfl) (by kernel_rfl) (fun _ _ _ h => h) (Or.inr ⟨by rfl, rfl⟩) ?_) | (refine wpAny_take (i := 10) (v := _) rfl (by kernel_rfl) (by kernel_rfl) (by kernel_rfl) (fun _ _ _ h => h) (Or.inl ⟨by rfl, fun w => by go_simp; try with_reducible rfl⟩) ?_)
        try simp only [Act.put, List.getElem_toArray, List.getElem_cons_succ, List.getElem_cons_zero, List.setIfInBounds_toArray, List.set_cons_zero, List.set_cons_succ]
        first | (refine wpAny_take (i := 11) (v := undef) rfl (by kernel_rfl) (by kernel_rfl) (by kernel_rfl) (fun _ _ _ h => h) (Or.inr ⟨by rfl, rfl⟩) ?_) | (refine wpAny_take (i := 11) (v := _) rfl (by kernel_rfl) (by kernel_rfl) (by kernel_rfl) (fun _ _ _ h => h) (Or.inl ⟨by rfl, fun w => by go_simp; try with_reducible rfl⟩) ?_)
        try simp only [Act.put, List.getElem_toArray, List.getElem_cons_succ, List.getElem_cons_zero, List.setIfInBounds_toArray, List.set_cons_zero, List.set_cons_succ]
        first | (refine wpAny_take (i := 12) (v := undef) rfl (by kernel_rfl) (by kernel_rfl) (by kernel_rfl) (fun _ _ _ h => h) (Or.inr ⟨by rfl, rfl⟩) ?_) | (refine wpAny_take (i := 12) (v := _) rfl (by kernel_rfl) (by kernel_rfl) (by kernel_rfl) (fun _ _ _ h => h) (Or.inl ⟨by rfl, fun w => by go_simp; try with_reducible rfl⟩) ?_)
        try simp only [Act.put, List.getElem_toArray, List.getElem_cons_succ, List.getElem_cons_zero, List.setIfInBounds_toArray, List.set_cons_zero, List.set_cons_succ]
        first | (refine wpAny_take (i := 13) (v := undef) rfl (by kernel_rfl) (by kernel_rfl) (by kernel_rfl) (fun _ _ _ h => h) (Or.inr ⟨by rfl, rfl⟩) ?_) | (refine wpAny_take (i := 13) (v := _) rfl (by kernel_rfl) (by kernel_rfl) (by kernel_rfl) (fun _ _ _ h => h) (Or.inl ⟨by rfl, fun w => by go_simp; try with_reducible rfl⟩) ?_)
        try simp only [Act.put, List.getElem_toArray, List.getElem_cons_succ, List.getElem_cons_zero, List.setIfInBounds_toArray, List.set_cons_zero, List.set_cons_succ]
        first | (refine wpAny_take (i := 14) (v := undef) rfl (by kernel_rfl) (by kernel_rfl) (by kernel_rfl) (fun _ _ _ h => h) (Or.inr ⟨by rfl, rfl⟩) ?_) | (refine wpAny_take (i := 14) (v := _) rfl (by kernel_rfl) (by kernel_rfl) (by kernel_rfl) (fun _ _ _ h => h) (Or.inl ⟨by rfl, fun w => by go_simp; try with_reducible rfl⟩) ?_)
        try simp only [Act.put, List.getElem_toArray, List.getElem_cons_succ, List.getElem_cons_zero, List.setIfInBounds_toArray, List.set_cons_zero, List.set_cons_succ]
        first | (refine wpAny_take (i := 15) (v := undef) rfl (by kernel_rfl) (by kernel_rfl) (by kernel_rfl) (fun _ _ _ h => h) (Or.inr ⟨by rfl, rfl⟩) ?_) | (refine wpAny_take (i := 15) (v := _) rfl (by kernel_rfl) (by kernel_rfl) (by kernel_rfl) (fun _ _ _ h => h) (Or.inl ⟨by rfl, fun w => by go_simp; try with_reducible rfl⟩) ?_)
        try simp only [Act.put, List.getElem_toArray, List.getElem_cons_succ, List.getElem_cons_zero, List.setIfInBounds_toArray, List.set_cons_zero, List.set_cons_succ]
        first | (refine wpAny_take (i := 16) (v := undef) rfl (by kernel_rfl) (by kernel_rfl) (by kernel_rfl) (fun _ _ _ h => h) (Or.inr ⟨by rfl, rfl⟩) ?_) | (refine wpAny_take (i := 16) (v := _) rfl (by kernel_rfl) (by kernel_rfl) (by kernel_rfl) (fun _ _ _ h => h) (Or.inl ⟨by rfl, fun w => by go_simp; try with_reducible rfl⟩) ?_)
        try simp only [Act.put, List.getElem_toArray, List.getElem_cons_succ, List.getElem_cons_zero, List.setIfInBounds_toArray, List.set_cons_zero, List.set_cons_succ]
        first | (refine wpAny_take (i := 17) (v := undef) rfl (by kernel_rfl) (by kernel_rfl) (by kernel_rfl) (fun _ _ _ h => h) (Or.inr ⟨by rfl, rfl⟩) ?_) | (refine wpAny_take (i := 17) (v := _) rfl (by kernel_rfl) (by kernel_rfl) (by kernel_rfl) (fun _ _ _ h => h) (Or.inl ⟨by rfl, fun w => by go_simp; try with_reducible rfl⟩) ?_)
        try simp only [Act.put, List.getElem_toArray, List.getElem_cons_succ, List.getElem_cons_zero, List.setIfInBounds_toArray, List.set_cons_zero, List.set_cons_succ]
        first | (refine wpAny_take (i := 18) (v := undef) rfl (by kernel_rfl) (by kernel_rfl) (by kernel_rfl) (fun _ _ _ h => h) (Or.inr ⟨by rfl, rfl⟩) ?_) | (refine wpAny_take (i := 18) (v := _) rfl (by kernel_rfl) (by kernel_rfl) (by kernel_rfl) (fun _ _ _ h => h) (Or.inl ⟨by rfl, fun w => by go_simp; try with_reducible rfl⟩) ?_)
        try simp only [Act.put, List.getElem_toArray, List.getElem_cons_succ, List.getElem_cons_zero, List.setIfInBounds_toArray, List.set_cons_zero, List.set_cons_succ]
        first | (refine wpAny_take (i := 19) (v := undef) rfl (by kernel_rfl) (by kernel_rfl) (by kernel_rfl) (fun _ _ _ h => h) (Or.inr ⟨by rfl, rfl⟩) ?_) | (refine wpAny_take (i := 19) (v := _) rfl (by kernel_rfl) (by kernel_rfl) (by kernel_rfl) (fun _ _ _ h => h) (Or.inl ⟨by rfl, fun w => by go_simp; try with_reducible rfl⟩) ?_)
        try simp only [Act.put, List.getElem_toArray, List.getElem_cons_succ, List.getElem_cons_zero, List.setIfInBounds_toArray, List.set_cons_zero, List.set_cons_succ]
        first | (refine wpAny_take (i := 20) (v := undef) rfl (by kernel_rfl) (by kernel_rfl) (by kernel_rfl) (fun _ _ _ h => h) (Or.inr ⟨by rfl, rfl⟩) ?_) | (refine wpAny_take (i := 20) (v := _) rfl (by kernel_rfl) (by kernel_rfl) (by kernel_rfl) (fun _ _ _ h => h) (Or.inl ⟨by rfl, fun w => by go_simp; try with_reducible rfl⟩) ?_)
        try simp only [Act.put, List.getElem_toArray, List.getElem_cons_succ, List.getElem_cons_zero, List.setIfInBounds_toArray, List.set_cons_zero, List.set_cons_succ]
        first | (refine wpAny_take (i := 21) (v := undef) rfl (by kernel_rfl) (by kernel_rfl) (by kernel_rfl) (fun _ _ _ h => h) (Or.inr ⟨by rfl, rfl⟩) ?_) | (refine wpAny_take (i := 21) (v := _) rfl (by kernel_rfl) (by kernel_rfl) (by kernel_rfl) (fun _ _ _ h => h) (Or.inl ⟨by rfl, fun w => by go_simp; try with_reducible rfl⟩) ?_)
        try simp only [Act.put, List.getElem_toArray, List.getElem_cons_succ, List.getElem_cons_zero, List.setIfInBounds_toArray, List.set_cons_zero, List.set_cons_succ]
        first | (refine wpAny_take (i := 22) (v := undef) rfl (by kernel_rfl) (by kernel_rfl) (by kernel_rfl) (fun _ _ _ h => h) (Or.inr ⟨by rfl, rfl⟩) ?_) | (refine wpAny_take (i := 22) (v := _) rfl (by kernel_rfl) (by kernel_rfl) (by kernel_rfl) (fun _ _ _ h => h) (Or.inl ⟨by rfl, fun w => by go_simp; try with_reducible rfl⟩) ?_)
        try simp only [Act.put, List.getElem_toArray, List.getElem_cons_succ, List.getElem_cons_zero, List.setIfInBounds_toArray, List.set_cons_zero, List.set_cons_succ]
        first | (refine wpAny_take (i := 23) (v := undef) rfl (by kernel_rfl) (by kernel_rfl) (by kernel_rfl) (fun _ _ _ h => h) (Or.inr ⟨by rfl, rfl⟩) ?_) | (refine wpAny_take (i := 23) (v := _) rfl (by kernel_rfl) (by kernel_rfl) (by kernel_rfl) (fun _ _ _ h => h) (Or.inl ⟨by rfl, fun w => by go_simp; try with_reducible rfl⟩) ?_)
        try simp only [Act.put, List.getElem_toArray, List.getElem_cons_succ, List.getElem_cons_zero, List.setIfInBounds_toArray, List.set_cons_zero, List.set_cons_succ]
        first | (refine wpAny_take (i := 24) (v := undef) rfl (by kernel_rfl) (by kernel_rfl) (by kernel_rfl) (fun _ _ _ h => h) (Or.inr ⟨by rfl, rfl⟩) ?_) | (refine wpAny_take (i := 24) (v := _) rfl (by kernel_rfl) (by kernel_rfl) (by kernel_rfl) (fun _ _ _ h => h) (Or.inl ⟨by rfl, fun w => by go_simp; try with_reducible rfl⟩) ?_)
        try simp only [Act.put, List.getElem_toArray, List.getElem_cons_succ, List.getElem_cons_zero, List.setIfInBounds_toArray, List.set_cons_zero, List.set_cons_succ]
        refine wpAny_done (by kernel_rfl) ?_ _
        have m4 : Mk0 ((w.alloc (Obj.cells #[Value.slice a0 n0 c0, Value.slice a1 n1 c1] 35)).alloc (Obj.cells #[Value.int .i64 (q : Int), Value.int .i64 ing, Value.int .i64 eg, Value.int .i64 exp, Value.int .i64 mac] 64)) w2 := ⟨m2.os, m2.tape, m2.output, m2.size, m2.block⟩
        have m5 : Mk0 w2 w3 := ⟨m3.os, m3.tape, m3.output, m3.size, m3.block⟩
        clear q2 r2 m2 m3
        refine ‹∀ (a : Act) (w : World), _ → _› _ _ ?_
        go_wp2_with fail
        go_ret
        exact ⟨retB HR.out.symm, ((Mk.alloc _ _).new _).trans (m4.trans m5)⟩
      · go_simp
        refine hK _ _ ?_
        clear hK K
        try simp only [Act.put, List.getElem_toArray, List.getElem_cons_succ, List.getElem_cons_zero, List.setIfInBounds_toArray, List.set_cons_zero, List.set_cons_succ]
        refine wpAny_ready (rs := [3]) (by kernel_rfl) (by simp) ?_
        refine AllReady.cons rfl (fun K hK => ?_) AllReady.nil
        go_simp
        refine hK _ _ ?_
        clear hK K
        try simp only [Act.put, List.getElem_toArray, List.getElem_cons_succ, List.getElem_cons_zero, List.setIfInBounds_toArray, List.set_cons_zero, List.set_cons_succ]
        refine wpAny_ready (rs := [6]) (by kernel_rfl) (by simp) ?_
        refine AllReady.cons rfl (fun K hK => ?_) AllReady.nil
        go_simp
        go_wp2_with (go_at_call 68; refine (implRealmOut _ _ _ _ _ _ _ _ hn HQ.out).mono ?_; rintro e w3 ⟨rfl, m3⟩)
        try simp only [Act.put, List.getElem_toArray, List.getElem_cons_succ, List.getElem_cons_zero, List.setIfInBounds_toArray, List.set_cons_zero, List.set_cons_succ]
        first | (refine wpAny_take (i := 7) (v := undef) rfl (by kernel_rfl) (by kernel_rfl) (by kernel_rfl) (fun _ _ _ h => h) (Or.inr ⟨by rfl, rfl⟩) ?_) | (refine wpAny_take (i := 7) (v := _) rfl (by kernel_rfl) (by kernel_rfl) (by kernel_rfl) (fun _ _ _ h => h) (Or.inl ⟨by rfl, fun w => by go_simp; try with_reducible rfl⟩) ?_)
        try simp only [Act.put, List.getElem_toArray, List.getElem_cons_succ, List.getElem_cons_zero, List.setIfInBounds_toArray, List.set_cons_zero, List.set_cons_succ]
        first | (refine wpAny_take (i := 8) (v := undef) rfl (by kernel_rfl) (by kernel_rfl) (by kernel_rfl) (fun _ _ _ h => h) (Or.inr ⟨by rfl, rfl⟩) ?_) | (refine wpAny_take (i := 8) (v := _) rfl (by kernel_rfl) (by kernel_rfl) (by kernel_rfl) (fun _ _ _ h => h) (Or.inl ⟨by rfl, fun w => by go_simp; try with_reducible rfl⟩) ?_)
        try simp only [Act.put, List.getElem_toArray, List.getElem_cons_succ, List.getElem_cons_zero, List.setIfInBounds_toArray, List.set_cons_zero, List.set_cons_succ]
        first | (refine wpAny_take (i := 9) (v := undef) rfl (by kernel_rfl) (by kernel_rfl) (by kernel_rfl) (fun _ _ _ h => h) (Or.inr ⟨by rfl, rfl⟩) ?_) | (refine wpAny_take (i := 9) (v := _) rfl (by kernel_rfl) (by kernel_rfl) (by kernel_rfl) (fun _ _ _ h => h) (Or.inl ⟨by rfl, fun w => by go_simp; try with_reducible rfl⟩) ?_)
        try simp only [Act.put, List.getElem_toArray, List.getElem_cons_succ, List.getElem_cons_zero, List.setIfInBounds_toArray, List.set_cons_zero, List.set_cons_succ]
        first | (refine wpAny_take (i := 10) (v := undef) rfl (by kernel_rfl) (by kernel_rfl) (by kernel_rfl) (fun _ _ _ h => h) (Or.inr ⟨by rfl, rfl⟩) ?_) | (refine wpAny_take (i := 10) (v := _) rfl (by kernel_rfl) (by kernel_rfl) (by kernel_rfl) (fun _ _ _ h => h) (Or.inl ⟨by rfl, fun w => by go_simp; try with_reducible rfl⟩) ?_)
        try simp only [Act.put, List.getElem_toArray, List.getElem_cons_succ, List.getElem_cons_zero, List.setIfInBounds_toArray, List.set_cons_zero, List.set_cons_succ]
        first | (refine wpAny_take (i := 11) (v := undef) rfl (by kernel_rfl) (by kernel_rfl) (by kernel_rfl) (fun _ _ _ h => h) (Or.inr ⟨by rfl, rfl⟩) ?_) | (refine wpAny_take (i := 11) (v := _) rfl (by kernel_rfl) (by kernel_rfl) (by kernel_rfl) (fun _ _ _ h => h) (Or.inl ⟨by rfl, fun w => by go_simp; try with_reducible rfl⟩) ?_)
        try simp only [Act.put, List.getElem_toArray, List.getElem_cons_succ, List.getElem_cons_zero, List.setIfInBounds_toArray, List.set_cons_zero, List.set_cons_succ]
        first | (refine wpAny_take (i := 12) (v := undef) rfl (by kernel_rfl) (by kernel_rfl) (by kernel_rfl) (fun _ _ _ h => h) (Or.inr ⟨by rfl, rfl⟩) ?_) | (refine wpAny_take (i := 12) (v := _) rfl (by kernel_rfl) (by kernel_rfl) (by kernel_rfl) (fun _ _ _ h => h) (Or.inl ⟨by rfl, fun w => by go_simp; try with_reducible rfl⟩) ?_)
        try simp only [Act.put, List.getElem_toArray, List.getElem_cons_succ, List.getElem_cons_zero, List.setIfInBounds_toArray, List.set_cons_zero, List.set_cons_succ]
        first | (refine wpAny_take (i := 13) (v := undef) rfl (by kernel_rfl) (by kernel_rfl) (by kernel_rfl) (fun _ _ _ h => h) (Or.inr ⟨by rfl, rfl⟩) ?_) | (refine wpAny_take (i := 13) (v := _) rfl (by kernel_rfl) (by kernel_rfl) (by kernel_rfl) (fun _ _ _ h => h) (Or.inl ⟨by rfl, fun w => by go_simp; try with_reducible rfl⟩) ?_)
        try simp only [Act.put, List.getElem_toArray, List.getElem_cons_succ, List.getElem_cons_zero, List.setIfInBounds_toArray, List.set_cons_zero, List.set_cons_succ]
        first | (refine wpAny_take (i := 14) (v := undef) rfl (by kernel_rfl) (by kernel_rfl) (by kernel_rfl) (fun _ _ _ h => h) (Or.inr ⟨by rfl, rfl⟩) ?_) | (refine wpAny_take (i := 14) (v := _) rfl (by kernel_rfl) (by kernel_rfl) (by kernel_rfl) (fun _ _ _ h => h) (Or.inl ⟨by rfl, fun w => by go_simp; try with_reducible rfl⟩) ?_)
        try simp only [Act.put, List.getElem_toArray, List.getElem_cons_succ, List.getElem_cons_zero, List.setIfInBounds_toArray, List.set_cons_zero, List.set_cons_succ]
        first | (refine wpAny_take (i := 15) (v := undef) rfl (by kernel_rfl) (by kernel_rfl) (by kernel_rfl) (fun _ _ _ h => h) (Or.inr ⟨by rfl, rfl⟩) ?_) | (refine wpAny_take (i := 15) (v := _) rfl (by kernel_rfl) (by kernel_rfl) (by kernel_rfl) (fun _ _ _ h => h) (Or.inl ⟨by rfl, fun w => by go_simp; try with_reducible rfl⟩) ?_)
        try simp only [Act.put, List.getElem_toArray, List.getElem_cons_succ, List.getElem_cons_zero, List.setIfInBounds_toArray, List.set_cons_zero, List.set_cons_succ]
        first | (refine wpAny_take (i := 16) (v := undef) rfl (by kernel_rfl) (by kernel_rfl) (by kernel_rfl) (fun _ _ _ h => h) (Or.inr ⟨by rfl, rfl⟩) ?_) | (refine wpAny_take (i := 16) (v := _) rfl (by kernel_rfl) (by kernel_rfl) (by kernel_rfl) (fun _ _ _ h => h) (Or.inl ⟨by rfl, fun w => by go_simp; try with_reducible rfl⟩) ?_)
        try simp only [Act.put, List.getElem_toArray, List.getElem_cons_succ, List.getElem_cons_zero, List.setIfInBounds_toArray, List.set_cons_zero, List.set_cons_succ]
        first | (refine wpAny_take (i := 17) (v := undef) rfl (by kernel_rfl) (by kernel_rfl) (by kernel_rfl) (fun _ _ _ h => h) (Or.inr ⟨by rfl, rfl⟩) ?_) | (refine wpAny_take (i := 17) (v := _) rfl (by kernel_rfl) (by kernel_rfl) (by kernel_rfl) (fun _ _ _ h => h) (Or.inl ⟨by rfl, fun w => by go_simp; try with_reducible rfl⟩) ?_)
        try simp only [Act.put, List.getElem_toArray, List.getElem_cons_succ, List.getElem_cons_zero, List.setIfInBounds_toArray, List.set_cons_zero, List.set_cons_succ]
        first | (refine wpAny_take (i := 18) (v := undef) rfl (by kernel_rfl) (by kernel_rfl) (by kernel_rfl) (fun _ _ _ h => h) (Or.inr ⟨by rfl, rfl⟩) ?_) | (refine wpAny_take (i := 18) (v := _) rfl (by kernel_rfl) (by kernel_rfl) (by kernel_rfl) (fun _ _ _ h => h) (Or.inl ⟨by rfl, fun w => by go_simp; try with_reducible rfl⟩) ?_)
        try simp only [Act.put, List.getElem_toArray, List.getElem_cons_succ, List.getElem_cons_zero, List.setIfInBounds_toArray, List.set_cons_zero, List.set_cons_succ]
        first | (refine wpAny_take (i := 19) (v := undef) rfl (by kernel_rfl) (by kernel_rfl) (by kernel_rfl) (fun _ _ _ h => h) (Or.inr ⟨by rfl, rfl⟩) ?_) | (refine wpAny_take (i := 19) (v := _) rfl (by kernel_rfl) (by kernel_rfl) (by kernel_rfl) (fun _ _ _ h => h) (Or.inl ⟨by rfl, fun w => by go_simp; try with_reducible rfl⟩) ?_)
        try simp only [Act.put, List.getElem_toArray, List.getElem_cons_succ, List.getElem_cons_zero, List.setIfInBounds_toArray, List.set_cons_zero, List.set_cons_succ]
        first | (refine wpAny_take (i := 20) (v := undef) rfl (by kernel_rfl) (by kernel_rfl) (by kernel_rfl) (fun _ _ _ h => h) (Or.inr ⟨by rfl, rfl⟩) ?_) | (refine wpAny_take (i := 20) (v := _) rfl (by kernel_rfl) (by kernel_rfl) (by kernel_rfl) (fun _ _ _ h => h) (Or.inl ⟨by rfl, fun w => by go_simp; try with_reducible rfl⟩) ?_)
        try simp only [Act.put, List.getElem_toArray, List.getElem_cons_succ, List.getElem_cons_zero, List.setIfInBounds_toArray, List.set_cons_zero, List.set_cons_succ]
        first | (refine wpAny_take (i := 21) (v := undef) rfl (by kernel_rfl) (by kernel_rfl) (by kernel_rfl) (fun _ _ _ h => h) (Or.inr ⟨by rfl, rfl⟩) ?_) | (refine wpAny_take (i := 21) (v := _) rfl (by kernel_rfl) (by kernel_rfl) (by kernel_rfl) (fun _ _ _ h => h) (Or.inl ⟨by rfl, fun w => by go_simp; try with_reducible rfl⟩) ?_)
        try simp only [Act.put, List.getElem_toArray, List.getElem_cons_succ, List.getElem_cons_zero, List.setIfInBounds_toArray, List.set_cons_zero, List.set_cons_succ]
        first | (refine wpAny_take (i := 22) (v := undef) rfl (by kernel_rfl) (by kernel_rfl) (by kernel_rfl) (fun _ _ _ h => h) (Or.inr ⟨by rfl, rfl⟩) ?_) | (refine wpAny_take (i := 22) (v := _) rfl (by kernel_rfl) (by kernel_rfl) (by kernel_rfl) (fun _ _ _ h => h) (Or.inl ⟨by rfl, fun w => by go_simp; try with_reducible rfl⟩) ?_)
        try simp only [Act.put, List.getElem_toArray, List.getElem_cons_succ, List.getElem_cons_zero, List.setIfInBounds_toArray, List.set_cons_zero, List.set_cons_succ]
        first | (refine wpAny_take (i := 23) (v := undef) rfl (by kernel_rfl) (by kernel_rfl) (by kernel_rfl) (fun _ _ _ h => h) (Or.inr ⟨by rfl, rfl⟩) ?_) | (refine wpAny_take (i := 23) (v := _) rfl (by kernel_rfl) (by kernel_rfl) (by kernel_rfl) (fun _ _ _ h => h) (Or.inl ⟨by rfl, fun w => by go_simp; try with_reducible rfl⟩) ?_)
        try simp only [Act.put, List.getElem_toArray, List.getElem_cons_succ, List.getElem_cons_zero, List.setIfInBounds_toArray, List.set_cons_zero, List.set_cons_succ]
        first | (refine wpAny_take (i := 24) (v := undef) rfl (by kernel_rfl) (by kernel_rfl) (by kernel_rfl) (fun _ _ _ h => h) (Or.inr ⟨by rfl, rfl⟩) ?_) | (refine wpAny_take (i := 24) (v := _) rfl (by kernel_rfl) (by kernel_rfl) (by kernel_rfl) (fun _ _ _ h => h) (Or.inl ⟨by rfl, fun w => by go_simp; try with_reducible rfl⟩) ?_)
        try simp only [Act.put, List.getElem_toArray, List.getElem_cons_succ, List.getElem_cons_zero, List.setIfInBounds_toArray, List.set_cons_zero, List.set_cons_succ]
        refine wpAny_done (by kernel_rfl) ?_ _
        have m4 : Mk0 ((w.alloc (Obj.cells #[Value.slice a0 n0 c0, Value.slice a1 n1 c1] 35)).alloc (Obj.cells #[Value.int .i64 (q : Int), Value.int .i64 ing, Value.int .i64 eg, Value.int .i64 exp, Value.int .i64 mac] 64)) w2 := ⟨m2.os, m2.tape, m2.output, m2.size, m2.block⟩
        have m5 : Mk0 w2 w3 := ⟨m3.os, m3.tape, m3.output, m3.size, m3.block⟩
        clear q2 r2 m2 m3
        refine ‹∀ (a : Act) (w : World), _ → _› _ _ ?_
        go_wp2_with fail
        go_ret
        exact ⟨retB HR.out.symm, ((Mk.alloc _ _).new _).trans (m4.trans m5)⟩

end Go.Proofs.YtjdlkgfelccicaaGreat
namespace Go.Proofs.YtjdlkgfelccicaaGreat
open Go.ChangeShapes Go.WideShapes Go.ChangeAt Go.RowKit
set_option linter.unusedVariables false
/-- The value that hop k's MAC covers. -/
def atV (k b : Int) (hs : List THop) (j : Nat) : Int := if revB k = true then passN k b hs (j + 1) else passN k b hs j
def vhT (zs : List TAS) (n : Nat) (t b : Int) (x : THop) : Bool := vhB zs n t b x.nd x.ing x.eg x.exp x.mac
def vpTo (zs : List TAS) (n0 : Nat) (k t b : Int) (hs : List THop) : Nat → Bool
  | 0 => true
  | j + 1 => vpTo zs n0 k t b hs j && vhT zs n0 t (atV k b hs j) (hs.getD j default)
theorem vpTo_stop {zs : List TAS} {n0 : Nat} {k t b : Int} {hs : List THop} {j : Nat} (h : vhT zs n0 t (atV k b hs j) (hs.getD j default) = false) : ∀ n, j < n → vpTo zs n0 k t b hs n = false
  | 0, hk => absurd hk (by omega)
  | n + 1, hk => by
    rw [vpTo]
    by_cases e : j = n
    · subst e; rw [h]; simp
    · rw [vpTo_stop h n (by omega)]; rfl
theorem vpTo_go {zs : List TAS} {n0 : Nat} {k t b : Int} {hs : List THop} {j : Nat} (h0 : vpTo zs n0 k t b hs j = true) (h : vhT zs n0 t (atV k b hs j) (hs.getD j default) = true) : vpTo zs n0 k t b hs (j + 1) = true := by
  rw [vpTo, h0, h]; rfl
theorem addM_fits (b s : Int) : (Lit.int .i64 (addM b s)).wf = true := by
  have e1 : IntKind.i64.min = -9223372036854775808 := by decide
  have e2 : IntKind.i64.max = 9223372036854775807 := by decide
  simp only [Lit.wf, Bool.and_eq_true, decide_eq_true_eq]
  rw [e1, e2]
  unfold addM
  split <;> omega
theorem subM_fits (b s : Int) : (Lit.int .i64 (subM b s)).wf = true := by
  have e1 : IntKind.i64.min = -9223372036854775808 := by decide
  have e2 : IntKind.i64.max = 9223372036854775807 := by decide
  simp only [Lit.wf, Bool.and_eq_true, decide_eq_true_eq]
  rw [e1, e2]
  unfold subM
  split <;> omega
theorem pass_fits (k b m : Int) : (Lit.int .i64 (pass k b m)).wf = true := by
  unfold pass; split
  · exact subM_fits _ _
  · exact addM_fits _ _
theorem passN_fits {k b : Int} (hb : (Lit.int .i64 b).wf = true) (hs : List THop) : ∀ j, (Lit.int .i64 (passN k b hs j)).wf = true
  | 0 => hb
  | j + 1 => pass_fits _ _ _
theorem atV_fits {k b : Int} (hb : (Lit.int .i64 b).wf = true) (hs : List THop) (j : Nat) : (Lit.int .i64 (atV k b hs j)).wf = true := by
  unfold atV; split <;> exact passN_fits hb hs _
theorem hopfit {hs : List THop} {n j : Nat} (hl : hs.length = n) (hj : j < n) (hf : ∀ y ∈ hs, THop.fits y) {x : THop} (hx : x = hs.getD j default) : THop.fits x := by
  subst hx
  have : hs.getD j default ∈ hs := by
    rw [List.getD_eq_getElem?_getD, List.getElem?_eq_getElem (by omega)]
    exact List.getElem_mem _
  exact hf _ this
theorem hopL_fits {t b : Int} (ht : (Lit.int .i64 t).wf = true) (hb : (Lit.int .i64 b).wf = true) {x : THop} (hx : THop.fits x) : ∀ z ∈ hopL t b x.nd x.ing x.eg x.exp, (Lit.int .i64 z).wf = true :=
  hop_fits ht hb hx.1 hx.2.1 hx.2.2.1 hx.2.2.2.1

set_option maxRecDepth 100000 in
set_option maxHeartbeats 4000000 in
theorem specAtV (x0 x1 x2 : Int) (a : Option Addr) (n c B : Nat) (hs : List THop) (j : Nat) (w : World) (h : HasHop w B a n hs) (hB : B ≤ w.heap.size) (hn : n ≤ 1048576) (hj : j < n) :
    Calls Tryz.prog 80 #[.agg #[.int .i64 x0, .int .i64 x1, .int .i64 x2, .slice a n c], .int .i64 j] w fun e w' => e = .returned (.int .i64 (atV x0 x2 hs j)) ∧ Mk0 w w' := by
  have M0 := Mk.alloc w (Obj.cells #[Value.int .i64 x0, Value.int .i64 x1, Value.int .i64 x2, Value.slice a n c] 61)
  have k0 : (w.alloc (Obj.cells #[Value.int .i64 x0, Value.int .i64 x1, Value.int .i64 x2, Value.slice a n c] 61)).cell? ⟨w.heap.size, 0, none⟩ = some (.int .i64 x0) := by simp [go_sem]
  have k1 : (w.alloc (Obj.cells #[Value.int .i64 x0, Value.int .i64 x1, Value.int .i64 x2, Value.slice a n c] 61)).cell? ⟨w.heap.size, 1, none⟩ = some (.int .i64 x1) := by simp [go_sem]
  have k2 : (w.alloc (Obj.cells #[Value.int .i64 x0, Value.int .i64 x1, Value.int .i64 x2, Value.slice a n c] 61)).cell? ⟨w.heap.size, 2, none⟩ = some (.int .i64 x2) := by simp [go_sem]
  have k3 : (w.alloc (Obj.cells #[Value.int .i64 x0, Value.int .i64 x1, Value.int .i64 x2, Value.slice a n c] 61)).cell? ⟨w.heap.size, 3, none⟩ = some (.slice a n c) := by simp [go_sem]
  cases hr : revB x0
  · have HR := Lib.hid (show atV x0 x2 hs j = afterV x0 x2 hs n (((j : Nat)) : Int) by rw [after_in (by omega)]; unfold atV; rw [hr]; rfl)
    go_enter Tryz.func80, Tryz.ntmps80
    go_wp2_with fail
    refine (specRev _ _).mono ?_
    rintro e w1 ⟨he, m1⟩
    rw [hr] at he
    subst he
    replace k0 := m1.cellAt k0
    replace k1 := m1.cellAt k1
    replace k2 := m1.cellAt k2
    replace k3 := m1.cellAt k3
    have M1 := M0.trans m1
    have hg := World.block_lt_of_cell? _ _ k0
    simp only at hg
    go_wp2_with fail
    refine (specAfter x0 x1 x2 a n c B hs _ _ (h.mk M1 hB (.inr (Nat.le_refl _))) (Nat.le_trans hB M1.size) hn).mono ?_
    rintro e w2 ⟨rfl, m2⟩
    go_wp2_with fail
    go_ret
    exact ⟨retI HR.out.symm, M1.trans m2⟩
  · have HR := Lib.hid (show atV x0 x2 hs j = afterV x0 x2 hs n (((j + 1 : Nat)) : Int) by rw [after_in (by omega)]; unfold atV; rw [hr]; rfl)
    go_enter Tryz.func80, Tryz.ntmps80
    go_wp2_with fail
    refine (specRev _ _).mono ?_
    rintro e w1 ⟨he, m1⟩
    rw [hr] at he
    subst he
    replace k0 := m1.cellAt k0
    replace k1 := m1.cellAt k1
    replace k2 := m1.cellAt k2
    replace k3 := m1.cellAt k3
    have M1 := M0.trans m1
    have hg := World.block_lt_of_cell? _ _ k0
    simp only at hg
    go_wp2_with fail
    have HR2 := Lib.hid (show atV x0 x2 hs j = afterV x0 x2 hs n ((j : Int) + 1) by rw [HR.out]; congr 1)
    clear HR
    refine (specAfter x0 x1 x2 a n c B hs ((j : Int) + 1) _ (h.mk M1 hB (.inr (Nat.le_refl _))) (Nat.le_trans hB M1.size) hn).mono ?_
    rintro e w2 ⟨rfl, m2⟩
    go_wp2_with fail
    go_ret
    exact ⟨retI HR2.out.symm, M1.trans m2⟩

set_option maxRecDepth 100000 in
set_option maxHeartbeats 4000000 in
theorem implTrav (a0 a1 : Option Addr) (n0 c0 n1 c1 B : Nat) (zs : List TAS) (k t b : Int) (x : THop) (w : World) (h : HasAS w B a0 n0 zs) (hB : B ≤ w.heap.size) (hn : n0 ≤ 1048576) (hz : ∀ y ∈ zs, TAS.fits y) (ht : (Lit.int .i64 t).wf = true) (hb : (Lit.int .i64 b).wf = true) (hx : THop.fits x) :
    Calls Tryz.prog 81 #[.agg #[.slice a0 n0 c0, .slice a1 n1 c1], .int .i64 k, .int .i64 t, .int .i64 b, .agg #[.int .i64 x.nd, .int .i64 x.ing, .int .i64 x.eg, .int .i64 x.exp, .int .i64 x.mac]] w fun e w' => e = .returned (.tuple #[.int .i64 (pass k b x.mac), .bool (vhT zs n0 t (if revB k = true then pass k b x.mac else b) x)]) ∧ Mk0 w w' := by
  have M0 := (Mk.alloc w (Obj.cells #[Value.slice a0 n0 c0, Value.slice a1 n1 c1] 35)).new (Obj.cells #[Value.int .i64 x.nd, Value.int .i64 x.ing, Value.int .i64 x.eg, Value.int .i64 x.exp, Value.int .i64 x.mac] 64)
  have HT := Lib.hid (hopL_fits ht (pass_fits k b x.mac) hx)
  have HF := Lib.hid (hopL_fits ht hb hx)
  have HZ := Lib.hid hz
  clear hz hx
  have k0 : ((w.alloc (Obj.cells #[Value.slice a0 n0 c0, Value.slice a1 n1 c1] 35)).alloc (Obj.cells #[Value.int .i64 x.nd, Value.int .i64 x.ing, Value.int .i64 x.eg, Value.int .i64 x.exp, Value.int .i64 x.mac] 64)).cell? ⟨w.heap.size, 0, none⟩ = some (.slice a0 n0 c0) := by simp [go_sem]
  have k1 : ((w.alloc (Obj.cells #[Value.slice a0 n0 c0, Value.slice a1 n1 c1] 35)).alloc (Obj.cells #[Value.int .i64 x.nd, Value.int .i64 x.ing, Value.int .i64 x.eg, Value.int .i64 x.exp, Value.int .i64 x.mac] 64)).cell? ⟨w.heap.size, 1, none⟩ = some (.slice a1 n1 c1) := by simp [go_sem]
  have j0 : ((w.alloc (Obj.cells #[Value.slice a0 n0 c0, Value.slice a1 n1 c1] 35)).alloc (Obj.cells #[Value.int .i64 x.nd, Value.int .i64 x.ing, Value.int .i64 x.eg, Value.int .i64 x.exp, Value.int .i64 x.mac] 64)).cell? ⟨w.heap.size + 1, 0, none⟩ = some (.int .i64 x.nd) := by simp [go_sem]
  have j1 : ((w.alloc (Obj.cells #[Value.slice a0 n0 c0, Value.slice a1 n1 c1] 35)).alloc (Obj.cells #[Value.int .i64 x.nd, Value.int .i64 x.ing, Value.int .i64 x.eg, Value.int .i64 x.exp, Value.int .i64 x.mac] 64)).cell? ⟨w.heap.size + 1, 1, none⟩ = some (.int .i64 x.ing) := by simp [go_sem]
  have j2 : ((w.alloc (Obj.cells #[Value.slice a0 n0 c0, Value.slice a1 n1 c1] 35)).alloc (Obj.cells #[Value.int .i64 x.nd, Value.int .i64 x.ing, Value.int .i64 x.eg, Value.int .i64 x.exp, Value.int .i64 x.mac] 64)).cell? ⟨w.heap.size + 1, 2, none⟩ = some (.int .i64 x.eg) := by simp [go_sem]
  have j3 : ((w.alloc (Obj.cells #[Value.slice a0 n0 c0, Value.slice a1 n1 c1] 35)).alloc (Obj.cells #[Value.int .i64 x.nd, Value.int .i64 x.ing, Value.int .i64 x.eg, Value.int .i64 x.exp, Value.int .i64 x.mac] 64)).cell? ⟨w.heap.size + 1, 3, none⟩ = some (.int .i64 x.exp) := by simp [go_sem]
  have j4 : ((w.alloc (Obj.cells #[Value.slice a0 n0 c0, Value.slice a1 n1 c1] 35)).alloc (Obj.cells #[Value.int .i64 x.nd, Value.int .i64 x.ing, Value.int .i64 x.eg, Value.int .i64 x.exp, Value.int .i64 x.mac] 64)).cell? ⟨w.heap.size + 1, 4, none⟩ = some (.int .i64 x.mac) := by simp [go_sem]
  cases hr : revB k
  · go_enter Tryz.func81, Tryz.ntmps81
    go_wp2_with fail
    refine (implPass k b x _).mono ?_
    rintro e w1 ⟨rfl, m1⟩
    replace k0 := m1.cellAt k0
    replace k1 := m1.cellAt k1
    replace j0 := m1.cellAt j0
    replace j1 := m1.cellAt j1
    replace j2 := m1.cellAt j2
    replace j3 := m1.cellAt j3
    replace j4 := m1.cellAt j4
    have M1 := M0.trans m1
    have hg := World.block_lt_of_cell? _ _ k0
    have hg' := World.block_lt_of_cell? _ _ j0
    simp only at hg hg'
    go_wp2_with fail
    refine (implRev _ _).mono ?_
    rintro e w2 ⟨he, m2⟩
    rw [hr] at he
    subst he
    replace k0 := m2.cellAt k0
    replace k1 := m2.cellAt k1
    replace j0 := m2.cellAt j0
    replace j1 := m2.cellAt j1
    replace j2 := m2.cellAt j2
    replace j3 := m2.cellAt j3
    replace j4 := m2.cellAt j4
    have M2 := M1.trans m2
    have hg2 := World.block_lt_of_cell? _ _ k0
    have hg2' := World.block_lt_of_cell? _ _ j0
    simp only at hg2 hg2'
    go_wp2_with fail
    refine (implVerify a0 a1 n0 c0 n1 c1 B zs t b x.nd x.ing x.eg x.exp x.mac _ (h.mk M2 hB (.inr (Nat.le_refl _))) (Nat.le_trans hB M2.size) hn HZ.out HF.out).mono ?_
    rintro e w3 ⟨rfl, m3⟩
    go_wp2_with fail
    refine bodyPost_ret (v := .tuple #[.int .i64 (pass k b x.mac), .bool (vhB zs n0 t b x.nd x.ing x.eg x.exp x.mac)]) (by simp [results, Tryz.results81, go_sem]) rfl ⟨rfl, M2.trans m3⟩
  · go_enter Tryz.func81, Tryz.ntmps81
    go_wp2_with fail
    refine (implPass k b x _).mono ?_
    rintro e w1 ⟨rfl, m1⟩
    replace k0 := m1.cellAt k0
    replace k1 := m1.cellAt k1
    replace j0 := m1.cellAt j0
    replace j1 := m1.cellAt j1
    replace j2 := m1.cellAt j2
    replace j3 := m1.cellAt j3
    replace j4 := m1.cellAt j4
    have M1 := M0.trans m1
    have hg := World.block_lt_of_cell? _ _ k0
    have hg' := World.block_lt_of_cell? _ _ j0
    simp only at hg hg'
    go_wp2_with fail
    refine (implRev _ _).mono ?_
    rintro e w2 ⟨he, m2⟩
    rw [hr] at he
    subst he
    replace k0 := m2.cellAt k0
    replace k1 := m2.cellAt k1
    replace j0 := m2.cellAt j0
    replace j1 := m2.cellAt j1
    replace j2 := m2.cellAt j2
    replace j3 := m2.cellAt j3
    replace j4 := m2.cellAt j4
    have M2 := M1.trans m2
    have hg2 := World.block_lt_of_cell? _ _ k0
    have hg2' := World.block_lt_of_cell? _ _ j0
    simp only at hg2 hg2'
    go_wp2_with fail
    refine (implVerify a0 a1 n0 c0 n1 c1 B zs t (pass k b x.mac) x.nd x.ing x.eg x.exp x.mac _ (h.mk M2 hB (.inr (Nat.le_refl _))) (Nat.le_trans hB M2.size) hn HZ.out HT.out).mono ?_
    rintro e w3 ⟨rfl, m3⟩
    go_wp2_with fail
    refine bodyPost_ret (v := .tuple #[.int .i64 (pass k b x.mac), .bool (vhB zs n0 t (pass k b x.mac) x.nd x.ing x.eg x.exp x.mac)]) (by simp [results, Tryz.results81, go_sem]) rfl ⟨rfl, M2.trans m3⟩

set_option maxRecDepth 100000 in
set_option maxHeartbeats 4000000 in
theorem implVPart (a0 a1 : Option Addr) (n0 c0 n1 c1 B : Nat) (zs : List TAS) (x0 x1 x2 : Int) (a : Option Addr) (n c B' : Nat) (hs : List THop) (w : World) (h : HasAS w B a0 n0 zs) (h' : HasHop w B' a n hs) (hB : B ≤ w.heap.size) (hB' : B' ≤ w.heap.size) (hn : n0 ≤ 1048576) (hn' : n ≤ 1048576) (hz : ∀ y ∈ zs, TAS.fits y) (ht : (Lit.int .i64 x1).wf = true) (hb : (Lit.int .i64 x2).wf = true) (hf : ∀ y ∈ hs, THop.fits y) :
    Calls Tryz.prog 54 #[.agg #[.slice a0 n0 c0, .slice a1 n1 c1], .agg #[.int .i64 x0, .int .i64 x1, .int .i64 x2, .slice a n c]] w fun e w' => e = .returned (.bool (vpTo zs n0 x0 x1 x2 hs n)) ∧ Mk0 w w' := by
  have M0 := (Mk.alloc w (Obj.cells #[Value.slice a0 n0 c0, Value.slice a1 n1 c1] 35)).new (Obj.cells #[Value.int .i64 x0, Value.int .i64 x1, Value.int .i64 x2, Value.slice a n c] 61)
  have HZ := Lib.hid hz
  have HFF := Lib.hid hf
  clear hz hf
  go_enter Tryz.func54, Tryz.ntmps54
  go_wp2_with fail
  go_loopw [4, 5, 14] (fun r v i wr => r = .bool false ∧ ∃ k : Nat, k ≤ n ∧ i = .int .i64 k ∧ v = .int .i64 (passN x0 x2 hs k) ∧ Hid (vpTo zs n0 x0 x1 x2 hs k = true) ∧ Mk0 ((w.alloc (Obj.cells #[Value.slice a0 n0 c0, Value.slice a1 n1 c1] 35)).alloc (Obj.cells #[Value.int .i64 x0, Value.int .i64 x1, Value.int .i64 x2, Value.slice a n c] 61)) wr) (fun _ _ i _ => n - (intOf i).toNat)
  case atStart => exact ⟨rfl, 0, Nat.zero_le _, rfl, rfl, rfl, Mk.refl _ _ _⟩
  case round =>
    obtain ⟨rfl, k, hk, rfl, rfl, hS, hM⟩ := hrel
    have hM' := M0.trans hM
    have k0 : ((w.alloc (Obj.cells #[Value.slice a0 n0 c0, Value.slice a1 n1 c1] 35)).alloc (Obj.cells #[Value.int .i64 x0, Value.int .i64 x1, Value.int .i64 x2, Value.slice a n c] 61)).cell? ⟨w.heap.size, 0, none⟩ = some (.slice a0 n0 c0) := by simp [go_sem]
    replace k0 := hM.cellAt k0
    have k1 : ((w.alloc (Obj.cells #[Value.slice a0 n0 c0, Value.slice a1 n1 c1] 35)).alloc (Obj.cells #[Value.int .i64 x0, Value.int .i64 x1, Value.int .i64 x2, Value.slice a n c] 61)).cell? ⟨w.heap.size, 1, none⟩ = some (.slice a1 n1 c1) := by simp [go_sem]
    replace k1 := hM.cellAt k1
    have j0 : ((w.alloc (Obj.cells #[Value.slice a0 n0 c0, Value.slice a1 n1 c1] 35)).alloc (Obj.cells #[Value.int .i64 x0, Value.int .i64 x1, Value.int .i64 x2, Value.slice a n c] 61)).cell? ⟨w.heap.size + 1, 0, none⟩ = some (.int .i64 x0) := by simp [go_sem]
    replace j0 := hM.cellAt j0
    have j1 : ((w.alloc (Obj.cells #[Value.slice a0 n0 c0, Value.slice a1 n1 c1] 35)).alloc (Obj.cells #[Value.int .i64 x0, Value.int .i64 x1, Value.int .i64 x2, Value.slice a n c] 61)).cell? ⟨w.heap.size + 1, 1, none⟩ = some (.int .i64 x1) := by simp [go_sem]
    replace j1 := hM.cellAt j1
    have j2 : ((w.alloc (Obj.cells #[Value.slice a0 n0 c0, Value.slice a1 n1 c1] 35)).alloc (Obj.cells #[Value.int .i64 x0, Value.int .i64 x1, Value.int .i64 x2, Value.slice a n c] 61)).cell? ⟨w.heap.size + 1, 2, none⟩ = some (.int .i64 x2) := by simp [go_sem]
    replace j2 := hM.cellAt j2
    have j3 : ((w.alloc (Obj.cells #[Value.slice a0 n0 c0, Value.slice a1 n1 c1] 35)).alloc (Obj.cells #[Value.int .i64 x0, Value.int .i64 x1, Value.int .i64 x2, Value.slice a n c] 61)).cell? ⟨w.heap.size + 1, 3, none⟩ = some (.slice a n c) := by simp [go_sem]
    replace j3 := hM.cellAt j3
    have y0 := World.block_lt_of_cell? _ _ k0
    have y1 := World.block_lt_of_cell? _ _ j0
    simp only at y0 y1
    by_cases hlt : k < n
    · obtain ⟨b, off, x, rfl, hb2, hx, d0, d1, d2, d3, d4⟩ := HasHop.at _ _ _ _ _ _ (h'.mk hM' hB' (.inr (Nat.le_refl _))) hlt
      have hbr := World.block_lt_of_cell? _ _ d0
      simp only at hbr
      have HXF := Lib.hid (hopfit h'.1 hlt HFF.out hx.out)
      have hB1 := Nat.le_trans hB hM'.size
      have hB1' := Nat.le_trans hB' hM'.size
      have E := Lib.hid (show passN x0 x2 hs (k + 1) = pass x0 (passN x0 x2 hs k) x.mac by rw [passN, hx.out])
      have HV := Lib.hid (show vhT zs n0 x1 (if revB x0 = true then pass x0 (passN x0 x2 hs k) x.mac else passN x0 x2 hs k) x = vhT zs n0 x1 (atV x0 x2 hs k) (hs.getD k default) by rw [← hx.out]; unfold atV; rw [E.out])
      have MX := Mk.alloc wr (Obj.cells #[Value.int .i64 x.nd, Value.int .i64 x.ing, Value.int .i64 x.eg, Value.int .i64 x.exp, Value.int .i64 x.mac] 64)
      have MY := hM'.trans MX
      cases he : vhT zs n0 x1 (atV x0 x2 hs k) (hs.getD k default)
      · have HE := Lib.hid (vpTo_stop he n hlt)
        replace HV := Lib.hid (HV.out.trans he)
        clear he
        go_wp2_with fail
        refine (implTrav a0 a1 n0 c0 n1 c1 B zs x0 x1 (passN x0 x2 hs k) x _ (h.mk MY hB (.inr (Nat.le_refl _))) (Nat.le_trans hB MY.size) hn HZ.out ht (passN_fits hb hs k) HXF.out).mono ?_
        rintro e w2 ⟨hv, m2⟩
        rw [HV.out] at hv
        subst hv
        go_wp2_with fail
        go_ret
        exact ⟨retB HE.out.symm, MY.trans m2⟩
      · have HE := Lib.hid (vpTo_go hS.out he)
        replace HV := Lib.hid (HV.out.trans he)
        clear he
        go_wp2_with fail
        refine (implTrav a0 a1 n0 c0 n1 c1 B zs x0 x1 (passN x0 x2 hs k) x _ (h.mk MY hB (.inr (Nat.le_refl _))) (Nat.le_trans hB MY.size) hn HZ.out ht (passN_fits hb hs k) HXF.out).mono ?_
        rintro e w2 ⟨hv, m2⟩
        rw [HV.out] at hv
        subst hv
        go_wp2_with fail
        go_roundw
        case rel => exact ⟨rfl, k + 1, by omega, by go_num, congrArg (Value.int .i64) E.out.symm, HE.out, hM.trans (MX.trans m2)⟩
        case measure => simp [intOf]; omega
    · obtain rfl : k = n := by omega
      go_wp2_with fail
      go_ret
      exact ⟨retB hS.out.symm, hM'⟩

set_option maxRecDepth 100000 in
set_option maxHeartbeats 4000000 in
theorem specVPart (a0 a1 : Option Addr) (n0 c0 n1 c1 B : Nat) (zs : List TAS) (x0 x1 x2 : Int) (a : Option Addr) (n c B' : Nat) (hs : List THop) (w : World) (h : HasAS w B a0 n0 zs) (h' : HasHop w B' a n hs) (hB : B ≤ w.heap.size) (hB' : B' ≤ w.heap.size) (hn : n0 ≤ 1048576) (hn' : n ≤ 1048576) (hz : ∀ y ∈ zs, TAS.fits y) (ht : (Lit.int .i64 x1).wf = true) (hb : (Lit.int .i64 x2).wf = true) (hf : ∀ y ∈ hs, THop.fits y) :
    Calls Tryz.prog 52 #[.agg #[.slice a0 n0 c0, .slice a1 n1 c1], .agg #[.int .i64 x0, .int .i64 x1, .int .i64 x2, .slice a n c]] w fun e w' => e = .returned (.bool (vpTo zs n0 x0 x1 x2 hs n)) ∧ Mk0 w w' := by
  have M0 := (Mk.alloc w (Obj.cells #[Value.slice a0 n0 c0, Value.slice a1 n1 c1] 35)).new (Obj.cells #[Value.int .i64 x0, Value.int .i64 x1, Value.int .i64 x2, Value.slice a n c] 61)
  have HZ := Lib.hid hz
  have HFF := Lib.hid hf
  clear hz hf
  go_enter Tryz.func52, Tryz.ntmps52
  go_wp2_with fail
  go_loopw [4, 5] (fun r i wr => r = .bool false ∧ ∃ k : Nat, k ≤ n ∧ i = .int .i64 k ∧ Hid (vpTo zs n0 x0 x1 x2 hs k = true) ∧ Mk0 ((w.alloc (Obj.cells #[Value.slice a0 n0 c0, Value.slice a1 n1 c1] 35)).alloc (Obj.cells #[Value.int .i64 x0, Value.int .i64 x1, Value.int .i64 x2, Value.slice a n c] 61)) wr) (fun _ i _ => n - (intOf i).toNat)
  case atStart => exact ⟨rfl, 0, Nat.zero_le _, rfl, rfl, Mk.refl _ _ _⟩
  case round =>
    obtain ⟨rfl, k, hk, rfl, hS, hM⟩ := hrel
    have hM' := M0.trans hM
    have k0 : ((w.alloc (Obj.cells #[Value.slice a0 n0 c0, Value.slice a1 n1 c1] 35)).alloc (Obj.cells #[Value.int .i64 x0, Value.int .i64 x1, Value.int .i64 x2, Value.slice a n c] 61)).cell? ⟨w.heap.size, 0, none⟩ = some (.slice a0 n0 c0) := by simp [go_sem]
    replace k0 := hM.cellAt k0
    have k1 : ((w.alloc (Obj.cells #[Value.slice a0 n0 c0, Value.slice a1 n1 c1] 35)).alloc (Obj.cells #[Value.int .i64 x0, Value.int .i64 x1, Value.int .i64 x2, Value.slice a n c] 61)).cell? ⟨w.heap.size, 1, none⟩ = some (.slice a1 n1 c1) := by simp [go_sem]
    replace k1 := hM.cellAt k1
    have j0 : ((w.alloc (Obj.cells #[Value.slice a0 n0 c0, Value.slice a1 n1 c1] 35)).alloc (Obj.cells #[Value.int .i64 x0, Value.int .i64 x1, Value.int .i64 x2, Value.slice a n c] 61)).cell? ⟨w.heap.size + 1, 0, none⟩ = some (.int .i64 x0) := by simp [go_sem]
    replace j0 := hM.cellAt j0
    have j1 : ((w.alloc (Obj.cells #[Value.slice a0 n0 c0, Value.slice a1 n1 c1] 35)).alloc (Obj.cells #[Value.int .i64 x0, Value.int .i64 x1, Value.int .i64 x2, Value.slice a n c] 61)).cell? ⟨w.heap.size + 1, 1, none⟩ = some (.int .i64 x1) := by simp [go_sem]
    replace j1 := hM.cellAt j1
    have j2 : ((w.alloc (Obj.cells #[Value.slice a0 n0 c0, Value.slice a1 n1 c1] 35)).alloc (Obj.cells #[Value.int .i64 x0, Value.int .i64 x1, Value.int .i64 x2, Value.slice a n c] 61)).cell? ⟨w.heap.size + 1, 2, none⟩ = some (.int .i64 x2) := by simp [go_sem]
    replace j2 := hM.cellAt j2
    have j3 : ((w.alloc (Obj.cells #[Value.slice a0 n0 c0, Value.slice a1 n1 c1] 35)).alloc (Obj.cells #[Value.int .i64 x0, Value.int .i64 x1, Value.int .i64 x2, Value.slice a n c] 61)).cell? ⟨w.heap.size + 1, 3, none⟩ = some (.slice a n c) := by simp [go_sem]
    replace j3 := hM.cellAt j3
    have y0 := World.block_lt_of_cell? _ _ k0
    have y1 := World.block_lt_of_cell? _ _ j0
    simp only at y0 y1
    by_cases hlt : k < n
    · obtain ⟨b, off, x, rfl, hb2, hx, d0, d1, d2, d3, d4⟩ := HasHop.at _ _ _ _ _ _ (h'.mk hM' hB' (.inr (Nat.le_refl _))) hlt
      have hbr := World.block_lt_of_cell? _ _ d0
      simp only at hbr
      have HXF := Lib.hid (hopfit h'.1 hlt HFF.out hx.out)
      have hB1 := Nat.le_trans hB hM'.size
      have hB1' := Nat.le_trans hB' hM'.size
      have eh : ∀ w', Mk0 wr w' → HasAS w' B a0 n0 zs := fun w' m => h.mk (hM'.trans m) hB (.inr (Nat.le_refl _))
      have ez : ∀ w', Mk0 wr w' → B ≤ w'.heap.size := fun w' m => Nat.le_trans hB1 m.size
      have eh' : ∀ w', Mk0 wr w' → HasHop w' B' (some ⟨b, off, none⟩) n hs := fun w' m => h'.mk (hM'.trans m) hB' (.inr (Nat.le_refl _))
      have ez' : ∀ w', Mk0 wr w' → B' ≤ w'.heap.size := fun w' m => Nat.le_trans hB1' m.size
      have ed0 : ∀ w', Mk0 wr w' → w'.cell? ⟨b, off + k * 5, none⟩ = some (.int .i64 x.nd) := fun w' m => m.cellAt d0
      have ed1 : ∀ w', Mk0 wr w' → w'.cell? ⟨b, off + k * 5 + 1, none⟩ = some (.int .i64 x.ing) := fun w' m => m.cellAt d1
      have ed2 : ∀ w', Mk0 wr w' → w'.cell? ⟨b, off + k * 5 + 2, none⟩ = some (.int .i64 x.eg) := fun w' m => m.cellAt d2
      have ed3 : ∀ w', Mk0 wr w' → w'.cell? ⟨b, off + k * 5 + 3, none⟩ = some (.int .i64 x.exp) := fun w' m => m.cellAt d3
      have ed4 : ∀ w', Mk0 wr w' → w'.cell? ⟨b, off + k * 5 + 4, none⟩ = some (.int .i64 x.mac) := fun w' m => m.cellAt d4
      have HV := Lib.hid (show vhB zs n0 x1 (atV x0 x2 hs k) x.nd x.ing x.eg x.exp x.mac = vhT zs n0 x1 (atV x0 x2 hs k) (hs.getD k default) by rw [← hx.out]; rfl)
      have HLF := Lib.hid (hopL_fits ht (atV_fits (k := x0) hb hs k) HXF.out)
      cases he : vhT zs n0 x1 (atV x0 x2 hs k) (hs.getD k default)
      · have HE := Lib.hid (vpTo_stop he n hlt)
        replace HV := Lib.hid (HV.out.trans he)
        clear he
        go_wp2_with fail
        go_region_held3 (fun w' => Mk0 wr w' ∧ w'.cell? ⟨w.heap.size, 0, none⟩ = some (.slice a0 n0 c0) ∧ w'.cell? ⟨w.heap.size, 1, none⟩ = some (.slice a1 n1 c1) ∧ w'.cell? ⟨w.heap.size + 1, 0, none⟩ = some (.int .i64 x0) ∧ w'.cell? ⟨w.heap.size + 1, 1, none⟩ = some (.int .i64 x1) ∧ w'.cell? ⟨w.heap.size + 1, 2, none⟩ = some (.int .i64 x2) ∧ w'.cell? ⟨w.heap.size + 1, 3, none⟩ = some (.slice (some ⟨b, off, none⟩) n c) ∧ w'.cell? ⟨b, off + k * 5, none⟩ = some (.int .i64 x.nd) ∧ w'.cell? ⟨b, off + k * 5 + 1, none⟩ = some (.int .i64 x.ing) ∧ w'.cell? ⟨b, off + k * 5 + 2, none⟩ = some (.int .i64 x.eg) ∧ w'.cell? ⟨b, off + k * 5 + 3, none⟩ = some (.int .i64 x.exp) ∧ w'.cell? ⟨b, off + k * 5 + 4, none⟩ = some (.int .i64 x.mac)) (first | exact ⟨Mk.drew1 _, k0, k1, j0, j1, j2, j3, d0, d1, d2, d3, d4⟩ | (obtain ⟨s0, s1, s2, s3, s4, s5, s6, s7, s8, s9, s10, s11⟩ := ‹Mk0 wr _ ∧ _›; exact ⟨s0.trans mm, mm.cellAt s1, mm.cellAt s2, mm.cellAt s3, mm.cellAt s4, mm.cellAt s5, mm.cellAt s6, mm.cellAt s7, mm.cellAt s8, mm.cellAt s9, mm.cellAt s10, mm.cellAt s11⟩)) (first | (go_at_call 80; refine (specAtV x0 x1 x2 (some ⟨b, off, none⟩) n c B' hs k _ (eh' _ (‹Mk0 wr _ ∧ _›).1) (ez' _ (‹Mk0 wr _ ∧ _›).1) hn' hlt).mono ?_; rintro e wa ⟨rfl, mm⟩) | (go_at_call 79; refine (specVerify a0 a1 n0 c0 n1 c1 B zs x1 (atV x0 x2 hs k) x.nd x.ing x.eg x.exp x.mac _ (eh _ (‹Mk0 wr _ ∧ _›).1) (ez _ (‹Mk0 wr _ ∧ _›).1) hn HZ.out HLF.out).mono ?_; rintro e wb ⟨hv, mm⟩; rw [HV.out] at hv; subst hv))
        have m6 := (‹Mk0 wr _ ∧ _›).1
        clear k0 k1 j0 j1 j2 j3 d0 d1 d2 d3 d4
        refine ‹∀ (a : Act) (w : World), _ → _› _ _ ?_
        go_wp2_with fail
        go_ret
        exact ⟨retB HE.out.symm, hM'.trans m6⟩
      · have HE := Lib.hid (vpTo_go hS.out he)
        replace HV := Lib.hid (HV.out.trans he)
        clear he
        go_wp2_with fail
        go_region_held3 (fun w' => Mk0 wr w' ∧ w'.cell? ⟨w.heap.size, 0, none⟩ = some (.slice a0 n0 c0) ∧ w'.cell? ⟨w.heap.size, 1, none⟩ = some (.slice a1 n1 c1) ∧ w'.cell? ⟨w.heap.size + 1, 0, none⟩ = some (.int .i64 x0) ∧ w'.cell? ⟨w.heap.size + 1, 1, none⟩ = some (.int .i64 x1) ∧ w'.cell? ⟨w.heap.size + 1, 2, none⟩ = some (.int .i64 x2) ∧ w'.cell? ⟨w.heap.size + 1, 3, none⟩ = some (.slice (some ⟨b, off, none⟩) n c) ∧ w'.cell? ⟨b, off + k * 5, none⟩ = some (.int .i64 x.nd) ∧ w'.cell? ⟨b, off + k * 5 + 1, none⟩ = some (.int .i64 x.ing) ∧ w'.cell? ⟨b, off + k * 5 + 2, none⟩ = some (.int .i64 x.eg) ∧ w'.cell? ⟨b, off + k * 5 + 3, none⟩ = some (.int .i64 x.exp) ∧ w'.cell? ⟨b, off + k * 5 + 4, none⟩ = some (.int .i64 x.mac)) (first | exact ⟨Mk.drew1 _, k0, k1, j0, j1, j2, j3, d0, d1, d2, d3, d4⟩ | (obtain ⟨s0, s1, s2, s3, s4, s5, s6, s7, s8, s9, s10, s11⟩ := ‹Mk0 wr _ ∧ _›; exact ⟨s0.trans mm, mm.cellAt s1, mm.cellAt s2, mm.cellAt s3, mm.cellAt s4, mm.cellAt s5, mm.cellAt s6, mm.cellAt s7, mm.cellAt s8, mm.cellAt s9, mm.cellAt s10, mm.cellAt s11⟩)) (first | (go_at_call 80; refine (specAtV x0 x1 x2 (some ⟨b, off, none⟩) n c B' hs k _ (eh' _ (‹Mk0 wr _ ∧ _›).1) (ez' _ (‹Mk0 wr _ ∧ _›).1) hn' hlt).mono ?_; rintro e wa ⟨rfl, mm⟩) | (go_at_call 79; refine (specVerify a0 a1 n0 c0 n1 c1 B zs x1 (atV x0 x2 hs k) x.nd x.ing x.eg x.exp x.mac _ (eh _ (‹Mk0 wr _ ∧ _›).1) (ez _ (‹Mk0 wr _ ∧ _›).1) hn HZ.out HLF.out).mono ?_; rintro e wb ⟨hv, mm⟩; rw [HV.out] at hv; subst hv))
        have m6 := (‹Mk0 wr _ ∧ _›).1
        clear k0 k1 j0 j1 j2 j3 d0 d1 d2 d3 d4
        refine ‹∀ (a : Act) (w : World), _ → _› _ _ ?_
        go_wp2_with fail
        go_roundw
        case rel => exact ⟨rfl, k + 1, by omega, by go_num, HE.out, hM.trans m6⟩
        case measure => simp [intOf]; omega
    · obtain rfl : k = n := by omega
      go_wp2_with fail
      go_ret
      exact ⟨retB hS.out.symm, hM'⟩

end Go.Proofs.YtjdlkgfelccicaaGreat
namespace Go.Proofs.YtjdlkgfelccicaaGreat
open Go.ChangeShapes Go.WideShapes Go.ChangeAt Go.RowKit
set_option linter.unusedVariables false
def encPartB (x : TPathPart) : Bool := if 1 ≤ x.kind ∧ x.kind ≤ 4 then encB x.ts x.beta x.hops x.hops.length else false
def allTo {α : Type} [Inhabited α] (p : α → Bool) (zs : List α) : Nat → Bool
  | 0 => true
  | k + 1 => allTo p zs k && p (zs.getD k default)
theorem allTo_stop {α : Type} [Inhabited α] {p : α → Bool} {zs : List α} {k : Nat} (h : p (zs.getD k default) = false) : ∀ n, k < n → allTo p zs n = false
  | 0, hk => absurd hk (by omega)
  | n + 1, hk => by
    rw [allTo]
    by_cases e : k = n
    · subst e; rw [h]; simp
    · rw [allTo_stop h n (by omega)]; rfl
theorem allTo_go {α : Type} [Inhabited α] {p : α → Bool} {zs : List α} {k : Nat} (h0 : allTo p zs k = true) (h : p (zs.getD k default) = true) : allTo p zs (k + 1) = true := by
  rw [allTo, h0, h]; rfl
def encPathB (zs : List TPathPart) (n : Nat) : Bool := if n ≤ 3 then allTo encPartB zs n else false

set_option maxRecDepth 100000 in
set_option maxHeartbeats 4000000 in
theorem implPKYes (k : Int) (w : World) (h1 : 1 ≤ k) (h2 : k ≤ 4) : Calls Tryz.prog 64 #[.int .i64 k] w fun e w' => e = .returned (.bool true) ∧ Mk0 w w' := by
  have hk : k = 1 ∨ k = 2 ∨ k = 3 ∨ k = 4 := by omega
  clear h1 h2
  rcases hk with rfl | rfl | rfl | rfl
  · go_enter Tryz.func64, Tryz.ntmps64
    go_wp2_with fail
    refine (kindIs1 _).mono ?_
    rintro e w1 ⟨rfl, m1⟩
    go_wp2_with fail
    go_ret
    exact ⟨rfl, m1⟩
  · go_enter Tryz.func64, Tryz.ntmps64
    go_wp2_with fail
    refine (kindIs2 _).mono ?_
    rintro e w1 ⟨rfl, m1⟩
    go_wp2_with fail
    go_ret
    exact ⟨rfl, m1⟩
  · go_enter Tryz.func64, Tryz.ntmps64
    go_wp2_with fail
    refine (kindIs3 _).mono ?_
    rintro e w1 ⟨rfl, m1⟩
    go_wp2_with fail
    go_ret
    exact ⟨rfl, m1⟩
  · go_enter Tryz.func64, Tryz.ntmps64
    go_wp2_with fail
    refine (kindIs4 _).mono ?_
    rintro e w1 ⟨rfl, m1⟩
    go_wp2_with fail
    go_ret
    exact ⟨rfl, m1⟩

set_option maxRecDepth 100000 in
set_option maxHeartbeats 4000000 in
theorem implPKNo (k : Int) (w : World) (h : k < 1 ∨ 4 < k) : Calls Tryz.prog 64 #[.int .i64 k] w fun e w' => e = .returned (.bool false) ∧ Mk0 w w' := by
  have n1 : (k == 1) = false := by simp; omega
  have n2 : (k == 2) = false := by simp; omega
  have n3 : (k == 3) = false := by simp; omega
  have n4 : (k == 4) = false := by simp; omega
  clear h
  go_enter Tryz.func64, Tryz.ntmps64
  go_wp2_with fail
  refine (kindIs0 _ _ n1 n2 n3 n4).mono ?_
  rintro e w1 ⟨rfl, m1⟩
  go_wp2_with fail
  go_ret
  exact ⟨rfl, m1⟩

end Go.Proofs.YtjdlkgfelccicaaGreat
namespace Go.Proofs.YtjdlkgfelccicaaGreat
open Go.ChangeShapes Go.WideShapes Go.ChangeAt Go.RowKit
set_option linter.unusedVariables false
def vpT (zs : List TAS) (n0 : Nat) (x : TPathPart) : Bool := vpTo zs n0 x.kind x.ts x.beta x.hops x.hops.length
theorem partfit {ps : List TPathPart} {n j : Nat} (hl : ps.length = n) (hj : j < n) (hf : ∀ y ∈ ps, TPathPart.fits y) {x : TPathPart} (hx : x = ps.getD j default) : TPathPart.fits x := by
  subst hx
  have : ps.getD j default ∈ ps := by
    rw [List.getD_eq_getElem?_getD, List.getElem?_eq_getElem (by omega)]
    exact List.getElem_mem _
  exact hf _ this

set_option maxRecDepth 100000 in
set_option maxHeartbeats 4000000 in
theorem implVPath (a0 a1 : Option Addr) (n0 c0 n1 c1 B : Nat) (zs : List TAS) (a : Option Addr) (n c B' : Nat) (ps : List TPathPart) (w : World) (h : HasAS w B a0 n0 zs) (h' : HasPathPart w B' a n ps) (hB : B ≤ w.heap.size) (hB' : B' ≤ w.heap.size) (hn : n0 ≤ 1048576) (hn' : szPathPart ps n ≤ 1048576) (hz : ∀ y ∈ zs, TAS.fits y) (hf : ∀ y ∈ ps, TPathPart.fits y) :
    Calls Tryz.prog 33 #[.agg #[.slice a0 n0 c0, .slice a1 n1 c1], .agg #[.slice a n c]] w fun e w' => e = .returned (.bool (allTo (vpT zs n0) ps n)) ∧ Mk0 w w' := by
  have hn0 : n ≤ 1048576 := Nat.le_trans (szPathPart_n ps n) hn'
  have M0 := (Mk.alloc w (Obj.cells #[Value.slice a0 n0 c0, Value.slice a1 n1 c1] 35)).new (Obj.cells #[Value.slice a n c] 39)
  have HZ := Lib.hid hz
  have HFF := Lib.hid hf
  clear hz hf
  go_enter Tryz.func33, Tryz.ntmps33
  go_wp2_with fail
  go_loopw [4, 10] (fun r i wr => r = .bool false ∧ ∃ k : Nat, k ≤ n ∧ i = .int .i64 k ∧ Hid (allTo (vpT zs n0) ps k = true) ∧ Mk0 ((w.alloc (Obj.cells #[Value.slice a0 n0 c0, Value.slice a1 n1 c1] 35)).alloc (Obj.cells #[Value.slice a n c] 39)) wr) (fun _ i _ => n - (intOf i).toNat)
  case atStart => exact ⟨rfl, 0, Nat.zero_le _, rfl, rfl, Mk.refl _ _ _⟩
  case round =>
    obtain ⟨rfl, k, hk, rfl, hS, hM⟩ := hrel
    have hM' := M0.trans hM
    have k0 : ((w.alloc (Obj.cells #[Value.slice a0 n0 c0, Value.slice a1 n1 c1] 35)).alloc (Obj.cells #[Value.slice a n c] 39)).cell? ⟨w.heap.size, 0, none⟩ = some (.slice a0 n0 c0) := by simp [go_sem]
    replace k0 := hM.cellAt k0
    have k1 : ((w.alloc (Obj.cells #[Value.slice a0 n0 c0, Value.slice a1 n1 c1] 35)).alloc (Obj.cells #[Value.slice a n c] 39)).cell? ⟨w.heap.size, 1, none⟩ = some (.slice a1 n1 c1) := by simp [go_sem]
    replace k1 := hM.cellAt k1
    have j0 : ((w.alloc (Obj.cells #[Value.slice a0 n0 c0, Value.slice a1 n1 c1] 35)).alloc (Obj.cells #[Value.slice a n c] 39)).cell? ⟨w.heap.size + 1, 0, none⟩ = some (.slice a n c) := by simp [go_sem]
    replace j0 := hM.cellAt j0
    have y0 := World.block_lt_of_cell? _ _ k0
    have y1 := World.block_lt_of_cell? _ _ j0
    simp only at y0 y1
    by_cases hlt : k < n
    · obtain ⟨b, off, x, rfl, hb2, hx, a3, n3, c3, d0, d1, d2, d3, r3, m3, t3, z3⟩ := HasPathPart.at _ _ _ _ _ _ (h'.mk hM' hB' (.inr (Nat.le_refl _))) hlt
      have hs3 : n3 ≤ 1048576 := by have HS := szPathPart_at ps hlt; rw [← hx.out] at HS; unfold sePathPart at HS; have := r3.1; omega
      have hbr := World.block_lt_of_cell? _ _ d0
      simp only at hbr
      have hxf := partfit h'.1 hlt HFF.out hx.out
      have h1f := hxf.2.1
      have h2f := hxf.2.2.1
      have HXF := Lib.hid hxf.2.2.2
      clear hxf
      have hB1 := Nat.le_trans hB hM'.size
      have hB1' := Nat.le_trans hB' hM'.size
      have h1 := h.mk hM' hB (.inr (Nat.le_refl _))
      have HV := Lib.hid (show vpTo zs n0 x.kind x.ts x.beta x.hops n3 = vpT zs n0 (ps.getD k default) by rw [← hx.out]; unfold vpT; rw [r3.1])
      cases he : vpT zs n0 (ps.getD k default)
      · have HE := Lib.hid (allTo_stop he n hlt)
        replace HV := Lib.hid (HV.out.trans he)
        clear he
        have MX := Mk.alloc wr (Obj.cells #[Value.int .i64 x.kind, Value.int .i64 x.ts, Value.int .i64 x.beta, Value.slice a3 n3 c3] 61)
        go_wp2_with fail
        refine (implVPart a0 a1 n0 c0 n1 c1 B zs x.kind x.ts x.beta a3 n3 c3 B' x.hops _ (h1.mk MX hB1 (.inr (Nat.le_refl _))) (r3.mk MX hB1' (.inr (Nat.le_refl _))) (Nat.le_trans hB1 MX.size) (Nat.le_trans hB1' MX.size) hn hs3 HZ.out h1f h2f HXF.out).mono ?_
        rintro e w2 ⟨hv, m2⟩
        rw [HV.out] at hv
        subst hv
        have m3 := MX.trans m2
        go_wp2_with fail
        go_ret
        exact ⟨retB HE.out.symm, hM'.trans m3⟩
      · have HE := Lib.hid (allTo_go hS.out he)
        replace HV := Lib.hid (HV.out.trans he)
        clear he
        have MX := Mk.alloc wr (Obj.cells #[Value.int .i64 x.kind, Value.int .i64 x.ts, Value.int .i64 x.beta, Value.slice a3 n3 c3] 61)
        go_wp2_with fail
        refine (implVPart a0 a1 n0 c0 n1 c1 B zs x.kind x.ts x.beta a3 n3 c3 B' x.hops _ (h1.mk MX hB1 (.inr (Nat.le_refl _))) (r3.mk MX hB1' (.inr (Nat.le_refl _))) (Nat.le_trans hB1 MX.size) (Nat.le_trans hB1' MX.size) hn hs3 HZ.out h1f h2f HXF.out).mono ?_
        rintro e w2 ⟨hv, m2⟩
        rw [HV.out] at hv
        subst hv
        have m3 := MX.trans m2
        go_wp2_with fail
        go_roundw
        case rel => exact ⟨rfl, k + 1, by omega, by go_num, HE.out, hM.trans m3⟩
        case measure => simp [intOf]; omega
    · obtain rfl : k = n := by omega
      go_wp2_with fail
      go_ret
      exact ⟨retB hS.out.symm, hM'⟩

set_option maxRecDepth 100000 in
set_option maxHeartbeats 4000000 in
theorem specVPath (a0 a1 : Option Addr) (n0 c0 n1 c1 B : Nat) (zs : List TAS) (a : Option Addr) (n c B' : Nat) (ps : List TPathPart) (w : World) (h : HasAS w B a0 n0 zs) (h' : HasPathPart w B' a n ps) (hB : B ≤ w.heap.size) (hB' : B' ≤ w.heap.size) (hn : n0 ≤ 1048576) (hn' : szPathPart ps n ≤ 1048576) (hz : ∀ y ∈ zs, TAS.fits y) (hf : ∀ y ∈ ps, TPathPart.fits y) :
    Calls Tryz.prog 30 #[.agg #[.slice a0 n0 c0, .slice a1 n1 c1], .agg #[.slice a n c]] w fun e w' => e = .returned (.bool (allTo (vpT zs n0) ps n)) ∧ Mk0 w w' := by
  have hn0 : n ≤ 1048576 := Nat.le_trans (szPathPart_n ps n) hn'
  have M0 := (Mk.alloc w (Obj.cells #[Value.slice a0 n0 c0, Value.slice a1 n1 c1] 35)).new (Obj.cells #[Value.slice a n c] 39)
  have HZ := Lib.hid hz
  have HFF := Lib.hid hf
  clear hz hf
  go_enter Tryz.func30, Tryz.ntmps30
  go_wp2_with fail
  go_loopw [4, 5] (fun r i wr => r = .bool false ∧ ∃ k : Nat, k ≤ n ∧ i = .int .i64 k ∧ Hid (allTo (vpT zs n0) ps k = true) ∧ Mk0 ((w.alloc (Obj.cells #[Value.slice a0 n0 c0, Value.slice a1 n1 c1] 35)).alloc (Obj.cells #[Value.slice a n c] 39)) wr) (fun _ i _ => n - (intOf i).toNat)
  case atStart => exact ⟨rfl, 0, Nat.zero_le _, rfl, rfl, Mk.refl _ _ _⟩
  case round =>
    obtain ⟨rfl, k, hk, rfl, hS, hM⟩ := hrel
    have hM' := M0.trans hM
    have k0 : ((w.alloc (Obj.cells #[Value.slice a0 n0 c0, Value.slice a1 n1 c1] 35)).alloc (Obj.cells #[Value.slice a n c] 39)).cell? ⟨w.heap.size, 0, none⟩ = some (.slice a0 n0 c0) := by simp [go_sem]
    replace k0 := hM.cellAt k0
    have k1 : ((w.alloc (Obj.cells #[Value.slice a0 n0 c0, Value.slice a1 n1 c1] 35)).alloc (Obj.cells #[Value.slice a n c] 39)).cell? ⟨w.heap.size, 1, none⟩ = some (.slice a1 n1 c1) := by simp [go_sem]
    replace k1 := hM.cellAt k1
    have j0 : ((w.alloc (Obj.cells #[Value.slice a0 n0 c0, Value.slice a1 n1 c1] 35)).alloc (Obj.cells #[Value.slice a n c] 39)).cell? ⟨w.heap.size + 1, 0, none⟩ = some (.slice a n c) := by simp [go_sem]
    replace j0 := hM.cellAt j0
    have y0 := World.block_lt_of_cell? _ _ k0
    have y1 := World.block_lt_of_cell? _ _ j0
    simp only at y0 y1
    by_cases hlt : k < n
    · obtain ⟨b, off, x, rfl, hb2, hx, a3, n3, c3, d0, d1, d2, d3, r3, m3, t3, z3⟩ := HasPathPart.at _ _ _ _ _ _ (h'.mk hM' hB' (.inr (Nat.le_refl _))) hlt
      have hs3 : n3 ≤ 1048576 := by have HS := szPathPart_at ps hlt; rw [← hx.out] at HS; unfold sePathPart at HS; have := r3.1; omega
      have hbr := World.block_lt_of_cell? _ _ d0
      simp only at hbr
      have hxf := partfit h'.1 hlt HFF.out hx.out
      have h1f := hxf.2.1
      have h2f := hxf.2.2.1
      have HXF := Lib.hid hxf.2.2.2
      clear hxf
      have hB1 := Nat.le_trans hB hM'.size
      have hB1' := Nat.le_trans hB' hM'.size
      have h1 := h.mk hM' hB (.inr (Nat.le_refl _))
      have HV := Lib.hid (show vpTo zs n0 x.kind x.ts x.beta x.hops n3 = vpT zs n0 (ps.getD k default) by rw [← hx.out]; unfold vpT; rw [r3.1])
      cases he : vpT zs n0 (ps.getD k default)
      · have HE := Lib.hid (allTo_stop he n hlt)
        replace HV := Lib.hid (HV.out.trans he)
        clear he
        go_wp2_with fail
        go_region_with (go_at_call 52; refine (specVPart a0 a1 n0 c0 n1 c1 B zs x.kind x.ts x.beta a3 n3 c3 B' x.hops _ (h1.mk (Mk.drew1 _) hB1 (.inr (Nat.le_refl _))) (r3.mk (Mk.drew1 _) hB1' (.inr (Nat.le_refl _))) hB1 hB1' hn hs3 HZ.out h1f h2f HXF.out).mono ?_; rintro e w2 ⟨hv, m2⟩; rw [HV.out] at hv; subst hv)
        all_goals (
          have m3 : Mk0 wr w2 := ⟨m2.os, m2.tape, m2.output, m2.size, m2.block⟩
          clear m2 d0 d1 d2 d3
          refine ‹∀ (a : Act) (w : World), _ → _› _ _ ?_
          go_wp2_with fail
          go_ret
          exact ⟨retB HE.out.symm, hM'.trans m3⟩)
      · have HE := Lib.hid (allTo_go hS.out he)
        replace HV := Lib.hid (HV.out.trans he)
        clear he
        go_wp2_with fail
        go_region_with (go_at_call 52; refine (specVPart a0 a1 n0 c0 n1 c1 B zs x.kind x.ts x.beta a3 n3 c3 B' x.hops _ (h1.mk (Mk.drew1 _) hB1 (.inr (Nat.le_refl _))) (r3.mk (Mk.drew1 _) hB1' (.inr (Nat.le_refl _))) hB1 hB1' hn hs3 HZ.out h1f h2f HXF.out).mono ?_; rintro e w2 ⟨hv, m2⟩; rw [HV.out] at hv; subst hv)
        all_goals (
          have m3 : Mk0 wr w2 := ⟨m2.os, m2.tape, m2.output, m2.size, m2.block⟩
          clear m2 d0 d1 d2 d3
          refine ‹∀ (a : Act) (w : World), _ → _› _ _ ?_
          go_wp2_with fail
          go_roundw
          case rel => exact ⟨rfl, k + 1, by omega, by go_num, HE.out, hM.trans m3⟩
          case measure => simp [intOf]; omega)
    · obtain rfl : k = n := by omega
      go_wp2_with fail
      go_ret
      exact ⟨retB hS.out.symm, hM'⟩

end Go.Proofs.YtjdlkgfelccicaaGreat
namespace Go.Proofs.YtjdlkgfelccicaaGreat
open Go.ChangeShapes Go.WideShapes Go.ChangeAt Go.RowKit
set_option linter.unusedVariables false
def hopAt (t : Int) (hs : List THop) (k : Nat) : Bool := decide (t ≤ (hs.getD k default).exp)
def partAt (t : Int) (x : TPathPart) : Bool := decide (x.ts ≤ t) && allN (hopAt t x.hops) x.hops.length
def pathAt (t : Int) (ps : List TPathPart) (n : Nat) : Bool := allN (fun k => partAt t (ps.getD k default)) n
def useB (n0 : Nat) (zs : List TAS) (zl : List TLink) (n1 : Nat) (ps : List TPathPart) (n : Nat) (t : Int) : Bool := simB n0 zl n1 ps n && allTo (vpT zs n0) ps n && pathAt t ps n
set_option maxRecDepth 100000 in
set_option maxHeartbeats 4000000 in
theorem specHVA (x0 x1 x2 x3 x4 t : Int) (w : World) : Calls Tryz.prog 31 #[.agg #[.int .i64 x0, .int .i64 x1, .int .i64 x2, .int .i64 x3, .int .i64 x4], .int .i64 t] w fun e w' => e = .returned (.bool (decide (t ≤ x3))) ∧ Mk0 w w' := by
  have M0 := Mk.alloc w (Obj.cells #[Value.int .i64 x0, Value.int .i64 x1, Value.int .i64 x2, Value.int .i64 x3, Value.int .i64 x4] 64)
  go_enter Tryz.func31, Tryz.ntmps31
  go_wp2_with fail
  go_ret
  exact ⟨rfl, M0⟩

set_option maxRecDepth 100000 in
set_option maxHeartbeats 4000000 in
theorem implHVA (x0 x1 x2 x3 x4 t : Int) (w : World) : Calls Tryz.prog 53 #[.agg #[.int .i64 x0, .int .i64 x1, .int .i64 x2, .int .i64 x3, .int .i64 x4], .int .i64 t] w fun e w' => e = .returned (.bool (decide (t ≤ x3))) ∧ Mk0 w w' := by
  have M0 := Mk.alloc w (Obj.cells #[Value.int .i64 x0, Value.int .i64 x1, Value.int .i64 x2, Value.int .i64 x3, Value.int .i64 x4] 64)
  go_enter Tryz.func53, Tryz.ntmps53
  go_wp2_with fail
  go_ret
  exact ⟨rfl, M0⟩

set_option maxRecDepth 100000 in
set_option maxHeartbeats 4000000 in
theorem implPAt (a : Option Addr) (n c B' : Nat) (ps : List TPathPart) (t : Int) (w : World) (h : HasPathPart w B' a n ps) (hB' : B' ≤ w.heap.size) (hn : szPathPart ps n ≤ 1048576) :
    Calls Tryz.prog 32 #[.agg #[.slice a n c], .int .i64 t] w fun e w' => e = .returned (.bool (pathAt t ps n)) ∧ Mk0 w w' := by
  have hnn := szPathPart_n ps n
  have M0 := Mk.alloc w (Obj.cells #[Value.slice a n c] 39)
  have j0 : (w.alloc (Obj.cells #[Value.slice a n c] 39)).cell? ⟨w.heap.size, 0, none⟩ = some (.slice a n c) := by simp [go_sem]
  go_enter Tryz.func32, Tryz.ntmps32
  go_wp2_with fail
  generalize (w.alloc (Obj.cells #[Value.slice a n c] 39)) = WW at *
  go_loopw [4, 12] (fun r i wr => r = .bool false ∧ ∃ k : Nat, k ≤ n ∧ i = .int .i64 k ∧ Hid (allN (fun k => partAt t (ps.getD k default)) k = true) ∧ Mk0 WW wr) (fun _ i _ => n - (intOf i).toNat)
  case atStart => exact ⟨rfl, 0, Nat.zero_le _, rfl, rfl, Mk.refl _ _ _⟩
  case round =>
    obtain ⟨rfl, k, hk, rfl, hS, hM⟩ := hrel
    replace j0 := hM.cellAt j0
    have hM' := M0.trans hM
    by_cases hlt : k < n
    · have i1 : (0 : Int) ≤ (k : Int) := by omega
      have i2 : (k : Int) < (n : Int) := by omega
      obtain ⟨b, off, x, rfl, hb2, hx, a3, n3, c3, d0, d1, d2, d3, r3, m3, t3, z3⟩ := HasPathPart.at _ _ _ _ _ _ (h.mk hM' hB' (.inr (Nat.le_refl _))) hlt
      have hs3 : n3 ≤ 1048576 := by have HS := szPathPart_at ps hlt; rw [← hx.out] at HS; unfold sePathPart at HS; have := r3.1; omega
      have hbr := World.block_lt_of_cell? _ _ d0
      simp only at hbr
      have hB1 := Nat.le_trans hB' hM'.size
      have HP := Lib.hid (show partAt t (ps.getD k default) = (decide (x.ts ≤ t) && allN (hopAt t x.hops) n3) by rw [← hx.out]; unfold partAt; rw [r3.1])
      by_cases ht : x.ts ≤ t
      · have g2 : decide (t < x.ts) = false := by simpa using ht
        have HQ0 := Lib.hid (show partAt t (ps.getD k default) = allN (hopAt t x.hops) n3 by rw [HP.out, decide_eq_true ht]; rfl)
        have MX := Mk.alloc wr (Obj.cells #[Value.int .i64 x.kind, Value.int .i64 x.ts, Value.int .i64 x.beta, Value.slice a3 n3 c3] 61)
        have hB2 := Nat.le_trans hB1 MX.size
        replace r3 := r3.mk MX hB1 (.inr (Nat.le_refl _))
        replace hM := hM.trans MX
        replace hM' := hM'.trans MX
        replace j0 := MX.cellAt j0
        go_wp2_with fail
        go_loopw [4, 23] (fun r i wq => r = .bool false ∧ ∃ j : Nat, j ≤ n3 ∧ i = .int .i64 j ∧ Hid (allN (hopAt t x.hops) j = true) ∧ Mk0 (wr.alloc (Obj.cells #[Value.int .i64 x.kind, Value.int .i64 x.ts, Value.int .i64 x.beta, Value.slice a3 n3 c3] 61)) wq) (fun _ i _ => n3 - (intOf i).toNat)
        case atStart => exact ⟨rfl, 0, Nat.zero_le _, rfl, rfl, Mk.refl _ _ _⟩
        case round =>
          obtain ⟨rfl, j, hj, rfl, hT, hQ⟩ := hrel
          replace j0 := hQ.cellAt j0
          have hQ' := hM'.trans hQ
          by_cases hjt : j < n3
          · have j1 : (0 : Int) ≤ (j : Int) := by omega
            have j2 : (j : Int) < (n3 : Int) := by omega
            obtain ⟨b2, off2, q, rfl, hb3, hq, e0, e1, e2, e3, e4⟩ := HasHop.at _ _ _ _ _ _ (r3.mk hQ hB2 (.inr (Nat.le_refl _))) hjt
            have hbr3 := World.block_lt_of_cell? _ _ e0
            simp only at hbr3
            have HH := Lib.hid (show hopAt t x.hops j = decide (t ≤ q.exp) by unfold hopAt; rw [← hq.out])
            cases hv : decide (t ≤ q.exp)
            · have HV := Lib.hid hv
              clear hv
              have HN := Lib.hid (allN_stop (p := fun k => partAt t (ps.getD k default)) (k := k) (n := n) (by show partAt t (ps.getD k default) = false; rw [HQ0.out]; exact allN_stop (by rw [HH.out, HV.out]) hjt) hlt)
              have MY := Mk.alloc wr (Obj.cells #[Value.int .i64 q.nd, Value.int .i64 q.ing, Value.int .i64 q.eg, Value.int .i64 q.exp, Value.int .i64 q.mac] 64)
              go_wp2_with fail
              refine (implHVA q.nd q.ing q.eg q.exp q.mac t _).mono ?_
              rintro e w4 ⟨he, m4⟩
              rw [HV.out] at he
              subst he
              replace m4 := MY.trans m4
              go_wp2_with fail
              go_ret
              exact ⟨retB HN.out.symm, hQ'.trans m4⟩
            · have HV := Lib.hid hv
              clear hv
              have HG := Lib.hid (allN_go hT.out (by rw [HH.out, HV.out]))
              have MY := Mk.alloc wr (Obj.cells #[Value.int .i64 q.nd, Value.int .i64 q.ing, Value.int .i64 q.eg, Value.int .i64 q.exp, Value.int .i64 q.mac] 64)
              go_wp2_with fail
              refine (implHVA q.nd q.ing q.eg q.exp q.mac t _).mono ?_
              rintro e w4 ⟨he, m4⟩
              rw [HV.out] at he
              subst he
              replace m4 := MY.trans m4
              go_wp2_with fail
              go_roundw
              case rel => exact ⟨rfl, j + 1, by omega, by go_num, HG.out, hQ.trans m4⟩
              case measure => simp [intOf]; omega
          · obtain rfl : j = n3 := by omega
            have HG := Lib.hid (allN_go (p := fun k => partAt t (ps.getD k default)) hS.out (by show partAt t (ps.getD k default) = true; rw [HQ0.out]; exact hT.out))
            go_wp2_with fail
            go_roundw
            case rel => exact ⟨rfl, k + 1, by omega, by go_num, HG.out, hM.trans hQ⟩
            case measure => simp [intOf]; omega
      · have g1 : t < x.ts := by omega
        have g2 : decide (t < x.ts) = true := by simpa using g1
        have HN := Lib.hid (allN_stop (p := fun k => partAt t (ps.getD k default)) (k := k) (n := n) (by show partAt t (ps.getD k default) = false; rw [HP.out, decide_eq_false ht]; rfl) hlt)
        clear ht
        go_wp2_with fail
        go_ret
        exact ⟨retB HN.out.symm, hM'.trans (Mk.alloc _ _)⟩
    · obtain rfl : k = n := by omega
      go_wp2_with fail
      go_ret
      exact ⟨retB hS.out.symm, hM'⟩

set_option maxRecDepth 100000 in
set_option maxHeartbeats 4000000 in
theorem implPUse (a0 a1 : Option Addr) (n0 c0 n1 c1 B : Nat) (zs : List TAS) (zl : List TLink) (a : Option Addr) (n c B' : Nat) (ps : List TPathPart) (t : Int) (w : World) (hz : HasAS w B a0 n0 zs) (hl : HasLink w B a1 n1 zl) (hB : B ≤ w.heap.size) (hn0 : n0 ≤ 1048576) (hn1 : n1 ≤ 1048576) (hzf : ∀ y ∈ zs, TAS.fits y) (h : HasPathPart w B' a n ps) (hB' : B' ≤ w.heap.size) (hn : szPathPart ps n ≤ 1048576) (hf : ∀ y ∈ ps, TPathPart.fits y) :
    Calls Tryz.prog 14 #[.agg #[.slice a0 n0 c0, .slice a1 n1 c1], .agg #[.slice a n c], .int .i64 t] w fun e w' => e = .returned (.bool (useB n0 zs zl n1 ps n t)) ∧ Mk0 w w' := by
  have hnn := szPathPart_n ps n
  have M0 := (Mk.alloc w (Obj.cells #[Value.slice a0 n0 c0, Value.slice a1 n1 c1] 35)).new (Obj.cells #[Value.slice a n c] 39)
  have k0 : ((w.alloc (Obj.cells #[Value.slice a0 n0 c0, Value.slice a1 n1 c1] 35)).alloc (Obj.cells #[Value.slice a n c] 39)).cell? ⟨w.heap.size, 0, none⟩ = some (.slice a0 n0 c0) := by simp [go_sem]
  have k1 : ((w.alloc (Obj.cells #[Value.slice a0 n0 c0, Value.slice a1 n1 c1] 35)).alloc (Obj.cells #[Value.slice a n c] 39)).cell? ⟨w.heap.size, 1, none⟩ = some (.slice a1 n1 c1) := by simp [go_sem]
  have j0 : ((w.alloc (Obj.cells #[Value.slice a0 n0 c0, Value.slice a1 n1 c1] 35)).alloc (Obj.cells #[Value.slice a n c] 39)).cell? ⟨w.heap.size + 1, 0, none⟩ = some (.slice a n c) := by simp [go_sem]
  have HZ := Lib.hid hzf
  have HF := Lib.hid hf
  clear hzf hf
  go_enter Tryz.func14, Tryz.ntmps14
  go_wp2_with fail
  generalize ((w.alloc (Obj.cells #[Value.slice a0 n0 c0, Value.slice a1 n1 c1] 35)).alloc (Obj.cells #[Value.slice a n c] 39)) = WW at *
  refine (implPAt a n c B' ps t _ (h.mk M0 hB' (.inr (Nat.le_refl _))) (Nat.le_trans hB' M0.size) hn).mono ?_
  rintro e w2 ⟨he, m2⟩
  have M2 := M0.trans m2
  cases q1 : pathAt t ps n
  · have HR := Lib.hid (show useB n0 zs zl n1 ps n t = false by unfold useB; rw [q1, Bool.and_false])
    rw [q1] at he
    subst he
    clear q1
    go_wp2_with fail
    go_ret
    exact ⟨retB HR.out.symm, M2⟩
  · rw [q1] at he
    subst he
    replace k0 := m2.cellAt k0
    replace k1 := m2.cellAt k1
    replace j0 := m2.cellAt j0
    go_wp2_with fail
    refine (implSim a0 a1 n0 c0 n1 c1 B zl a n c B' ps _ (hl.mk M2 hB (.inr (Nat.le_refl _))) (Nat.le_trans hB M2.size) hn0 hn1 (h.mk M2 hB' (.inr (Nat.le_refl _))) (Nat.le_trans hB' M2.size) hn).mono ?_
    rintro e w3 ⟨he, m3⟩
    have M3 := M2.trans m3
    cases q2 : simB n0 zl n1 ps n
    · have HR := Lib.hid (show useB n0 zs zl n1 ps n t = false by unfold useB; rw [q2]; rfl)
      rw [q2] at he
      subst he
      clear q1 q2
      go_wp2_with fail
      go_ret
      exact ⟨retB HR.out.symm, M3⟩
    · have HR := Lib.hid (show useB n0 zs zl n1 ps n t = allTo (vpT zs n0) ps n by unfold useB; rw [q1, q2, Bool.and_true]; rfl)
      rw [q2] at he
      subst he
      clear q1 q2
      replace k0 := m3.cellAt k0
      replace k1 := m3.cellAt k1
      replace j0 := m3.cellAt j0
      go_wp2_with fail
      refine (implVPath a0 a1 n0 c0 n1 c1 B zs a n c B' ps _ (hz.mk M3 hB (.inr (Nat.le_refl _))) (h.mk M3 hB' (.inr (Nat.le_refl _))) (Nat.le_trans hB M3.size) (Nat.le_trans hB' M3.size) hn0 hn HZ.out HF.out).mono ?_
      rintro e w4 ⟨rfl, m4⟩
      go_wp2_with fail
      go_ret
      exact ⟨retB HR.out.symm, M3.trans m4⟩

set_option maxRecDepth 100000 in
set_option maxHeartbeats 4000000 in
theorem specPUse (a0 a1 : Option Addr) (n0 c0 n1 c1 B : Nat) (zs : List TAS) (zl : List TLink) (a : Option Addr) (n c B' : Nat) (ps : List TPathPart) (t : Int) (w : World) (hz : HasAS w B a0 n0 zs) (hl : HasLink w B a1 n1 zl) (hB : B ≤ w.heap.size) (hn0 : n0 ≤ 1048576) (hn1 : n1 ≤ 1048576) (hzf : ∀ y ∈ zs, TAS.fits y) (h : HasPathPart w B' a n ps) (hB' : B' ≤ w.heap.size) (hn : szPathPart ps n ≤ 1048576) (hf : ∀ y ∈ ps, TPathPart.fits y) :
    Calls Tryz.prog 13 #[.agg #[.slice a0 n0 c0, .slice a1 n1 c1], .agg #[.slice a n c], .int .i64 t] w fun e w' => e = .returned (.bool (useB n0 zs zl n1 ps n t)) ∧ Mk0 w w' := by
  have hnn := szPathPart_n ps n
  have M0 := (Mk.alloc w (Obj.cells #[Value.slice a0 n0 c0, Value.slice a1 n1 c1] 35)).new (Obj.cells #[Value.slice a n c] 39)
  have k0 : ((w.alloc (Obj.cells #[Value.slice a0 n0 c0, Value.slice a1 n1 c1] 35)).alloc (Obj.cells #[Value.slice a n c] 39)).cell? ⟨w.heap.size, 0, none⟩ = some (.slice a0 n0 c0) := by simp [go_sem]
  have k1 : ((w.alloc (Obj.cells #[Value.slice a0 n0 c0, Value.slice a1 n1 c1] 35)).alloc (Obj.cells #[Value.slice a n c] 39)).cell? ⟨w.heap.size, 1, none⟩ = some (.slice a1 n1 c1) := by simp [go_sem]
  have j0 : ((w.alloc (Obj.cells #[Value.slice a0 n0 c0, Value.slice a1 n1 c1] 35)).alloc (Obj.cells #[Value.slice a n c] 39)).cell? ⟨w.heap.size + 1, 0, none⟩ = some (.slice a n c) := by simp [go_sem]
  have HZ := Lib.hid hzf
  have HF := Lib.hid hf
  clear hzf hf
  go_enter Tryz.func13, Tryz.ntmps13
  go_wp2_with fail
  generalize ((w.alloc (Obj.cells #[Value.slice a0 n0 c0, Value.slice a1 n1 c1] 35)).alloc (Obj.cells #[Value.slice a n c] 39)) = WW at *
  refine (specSim a0 a1 n0 c0 n1 c1 B zl a n c B' ps _ (hl.mk M0 hB (.inr (Nat.le_refl _))) (Nat.le_trans hB M0.size) hn0 hn1 (h.mk M0 hB' (.inr (Nat.le_refl _))) (Nat.le_trans hB' M0.size) hn).mono ?_
  rintro e w2 ⟨he, m2⟩
  have M2 := M0.trans m2
  cases q1 : simB n0 zl n1 ps n
  · have HR := Lib.hid (show useB n0 zs zl n1 ps n t = false by unfold useB; rw [q1]; rfl)
    rw [q1] at he
    subst he
    clear q1
    go_wp2_with fail
    go_ret
    exact ⟨retB HR.out.symm, M2⟩
  · rw [q1] at he
    subst he
    replace k0 := m2.cellAt k0
    replace k1 := m2.cellAt k1
    replace j0 := m2.cellAt j0
    go_wp2_with fail
    refine (specVPath a0 a1 n0 c0 n1 c1 B zs a n c B' ps _ (hz.mk M2 hB (.inr (Nat.le_refl _))) (h.mk M2 hB' (.inr (Nat.le_refl _))) (Nat.le_trans hB M2.size) (Nat.le_trans hB' M2.size) hn0 hn HZ.out HF.out).mono ?_
    rintro e w3 ⟨he, m3⟩
    have M3 := M2.trans m3
    cases q2 : allTo (vpT zs n0) ps n
    · have HR := Lib.hid (show useB n0 zs zl n1 ps n t = false by unfold useB; rw [q2, Bool.and_false]; rfl)
      rw [q2] at he
      subst he
      clear q1 q2
      go_wp2_with fail
      go_ret
      exact ⟨retB HR.out.symm, M3⟩
    · have HR := Lib.hid (show useB n0 zs zl n1 ps n t = allN (fun k => partAt t (ps.getD k default)) n by unfold useB; rw [q1, q2]; rfl)
      rw [q2] at he
      subst he
      clear q1 q2
      replace k0 := m3.cellAt k0
      replace k1 := m3.cellAt k1
      replace j0 := m3.cellAt j0
      clear k0 k1 M0 m2 m3 M2
      go_wp2_with fail
      go_loopw [6, 7] (fun r i wr => r = .bool false ∧ ∃ k : Nat, k ≤ n ∧ i = .int .i64 k ∧ Hid (allN (fun k => partAt t (ps.getD k default)) k = true) ∧ Mk0 w3 wr) (fun _ i _ => n - (intOf i).toNat)
      case atStart => exact ⟨rfl, 0, Nat.zero_le _, rfl, rfl, Mk.refl _ _ _⟩
      case round =>
        obtain ⟨rfl, k, hk, rfl, hS, hM⟩ := hrel
        replace j0 := hM.cellAt j0
        have hM' := M3.trans hM
        by_cases hlt : k < n
        · have i1 : (0 : Int) ≤ (k : Int) := by omega
          have i2 : (k : Int) < (n : Int) := by omega
          obtain ⟨b, off, x, rfl, hb2, hx, a3, n3, c3, d0, d1, d2, d3, r3, m3, t3, z3⟩ := HasPathPart.at _ _ _ _ _ _ (h.mk hM' hB' (.inr (Nat.le_refl _))) hlt
          have hs3 : n3 ≤ 1048576 := by have HS := szPathPart_at ps hlt; rw [← hx.out] at HS; unfold sePathPart at HS; have := r3.1; omega
          have hbr := World.block_lt_of_cell? _ _ d0
          simp only at hbr
          have hB1 := Nat.le_trans hB' hM'.size
          have HP := Lib.hid (show partAt t (ps.getD k default) = (decide (x.ts ≤ t) && allN (hopAt t x.hops) n3) by rw [← hx.out]; unfold partAt; rw [r3.1])
          by_cases ht : x.ts ≤ t
          · have g2 : decide (t < x.ts) = false := by simpa using ht
            have HQ0 := Lib.hid (show partAt t (ps.getD k default) = allN (hopAt t x.hops) n3 by rw [HP.out, decide_eq_true ht]; rfl)
            have hB2 := hB1
            go_wp2_with fail
            go_loopw [6, 8] (fun r i wq => r = .bool false ∧ ∃ j : Nat, j ≤ n3 ∧ i = .int .i64 j ∧ Hid (allN (hopAt t x.hops) j = true) ∧ Mk0 wr wq) (fun _ i _ => n3 - (intOf i).toNat)
            case atStart => exact ⟨rfl, 0, Nat.zero_le _, rfl, rfl, Mk.refl _ _ _⟩
            case round =>
              obtain ⟨rfl, j, hj, rfl, hT, hQ⟩ := hrel
              replace j0 := hQ.cellAt j0
              replace d0 := hQ.cellAt d0
              replace d3 := hQ.cellAt d3
              have hbr2 := World.block_lt_of_cell? _ _ d0
              simp only at hbr2
              have hQ' := hM'.trans hQ
              by_cases hjt : j < n3
              · have j1 : (0 : Int) ≤ (j : Int) := by omega
                have j2 : (j : Int) < (n3 : Int) := by omega
                obtain ⟨b2, off2, q, rfl, hb3, hq, e0, e1, e2, e3, e4⟩ := HasHop.at _ _ _ _ _ _ (r3.mk hQ hB2 (.inr (Nat.le_refl _))) hjt
                have hbr3 := World.block_lt_of_cell? _ _ e0
                simp only at hbr3
                have HH := Lib.hid (show hopAt t x.hops j = decide (t ≤ q.exp) by unfold hopAt; rw [← hq.out])
                cases hv : decide (t ≤ q.exp)
                · have HV := Lib.hid hv
                  clear hv
                  have HN := Lib.hid (allN_stop (p := fun k => partAt t (ps.getD k default)) (k := k) (n := n) (by show partAt t (ps.getD k default) = false; rw [HQ0.out]; exact allN_stop (by rw [HH.out, HV.out]) hjt) hlt)
                  go_wp2_with fail
                  refine (specHVA q.nd q.ing q.eg q.exp q.mac t _).mono ?_
                  rintro e w4 ⟨he, m4⟩
                  rw [HV.out] at he
                  subst he
                  go_wp2_with fail
                  go_ret
                  exact ⟨retB (HR.out.trans HN.out).symm, hQ'.trans m4⟩
                · have HV := Lib.hid hv
                  clear hv
                  have HG := Lib.hid (allN_go hT.out (by rw [HH.out, HV.out]))
                  go_wp2_with fail
                  refine (specHVA q.nd q.ing q.eg q.exp q.mac t _).mono ?_
                  rintro e w4 ⟨he, m4⟩
                  rw [HV.out] at he
                  subst he
                  go_wp2_with fail
                  go_roundw
                  case rel => exact ⟨rfl, j + 1, by omega, by go_num, HG.out, hQ.trans m4⟩
                  case measure => simp [intOf]; omega
              · obtain rfl : j = n3 := by omega
                have HG := Lib.hid (allN_go (p := fun k => partAt t (ps.getD k default)) hS.out (by show partAt t (ps.getD k default) = true; rw [HQ0.out]; exact hT.out))
                go_wp2_with fail
                go_roundw
                case rel => exact ⟨rfl, k + 1, by omega, by go_num, HG.out, hM.trans hQ⟩
                case measure => simp [intOf]; omega
          · have g1 : t < x.ts := by omega
            have g2 : decide (t < x.ts) = true := by simpa using g1
            have HN := Lib.hid (allN_stop (p := fun k => partAt t (ps.getD k default)) (k := k) (n := n) (by show partAt t (ps.getD k default) = false; rw [HP.out, decide_eq_false ht]; rfl) hlt)
            clear ht
            go_wp2_with fail
            go_ret
            exact ⟨retB (HR.out.trans HN.out).symm, hM'⟩
        · obtain rfl : k = n := by omega
          go_wp2_with fail
          go_ret
          exact ⟨retB (HR.out.trans hS.out).symm, hM'⟩

end Go.Proofs.YtjdlkgfelccicaaGreat
