
/- Hop: the laws' marks on whatever row may be written. -/
import Derived.Test.YtdlafigjkefllaaSHop
import Derived.Test.YtdlafigjkefllaaShp
namespace Go.Proofs.Ytdlafigjkefllaa
open Go.ChangeShapes Go.WideShapes Go.ChangeAt Go.RowKit
set_option linter.unusedVariables false
set_option maxRecDepth 100000 in
set_option maxHeartbeats 4000000 in
theorem markHopP (b off n c lo hi : Nat) (k0 : Int) (w : World) (hF : Fill w b off (n * 5) 0 (fun _ => undef)) (hlb : 0 < n → lo ≤ b ∧ b < hi) (hn : n ≤ 1048576) (h0 : 0 ≤ k0) (h1 : k0 ≤ 1099511627776) :
    Calls Try.prog 43 #[.slice (some ⟨b, off, none⟩) n c, .int .i64 k0] w fun e w' => e = .returned (.int .i64 (k0 + 5 * n)) ∧ Shp w w' ∧ Mk lo hi w w' := by
  go_enter Try.func43, Try.ntmps43
  go_wp2
  go_loopw [1, 5] (fun q i wr => ∃ k : Nat, k ≤ n ∧ i = .int .i64 k ∧ q = .int .i64 (k0 + 5 * k) ∧ Fill wr b off (n * 5) 0 (fun _ => undef) ∧ Shp w wr ∧ Mk lo hi w wr) (fun _ i _ => n - (intOf i).toNat)
  case atStart => exact ⟨0, Nat.zero_le _, rfl, by simp, hF, Shp.refl _, Mk.refl _ _ _⟩
  case round =>
    clear hF
    obtain ⟨k, hk, rfl, rfl, hF, hS, hM⟩ := hrel
    by_cases hlt : k < n
    · obtain ⟨hl, hb⟩ := hlb (by omega)
      obtain ⟨v0, hv0, hf0⟩ := hF.any (k * 5) (by omega)
      obtain ⟨v1, hv1, hf1⟩ := hF.any (k * 5 + 1) (by omega)
      rw [← Nat.add_assoc] at hv1 hf1
      obtain ⟨v2, hv2, hf2⟩ := hF.any (k * 5 + 2) (by omega)
      rw [← Nat.add_assoc] at hv2 hf2
      obtain ⟨v3, hv3, hf3⟩ := hF.any (k * 5 + 3) (by omega)
      rw [← Nat.add_assoc] at hv3 hf3
      obtain ⟨v4, hv4, hf4⟩ := hF.any (k * 5 + 4) (by omega)
      rw [← Nat.add_assoc] at hv4 hf4
      go_wp2
      go_roundw
      case rel => exact ⟨k + 1, by omega, by go_num, by go_num, (((((hF.put _ _).put _ _).put _ _).put _ _).put _ _), (((((hS.trans (Shp.set _ _ _)).trans (Shp.set _ _ _)).trans (Shp.set _ _ _)).trans (Shp.set _ _ _)).trans (Shp.set _ _ _)), (((((hM.putR _ _ hl hb).putR _ _ hl hb).putR _ _ hl hb).putR _ _ hl hb).putR _ _ hl hb)⟩
      case measure => simp [intOf]; omega
    · obtain rfl : k = n := by omega
      go_wp2
      go_ret
      exact ⟨rfl, hS, hM⟩
end Go.Proofs.Ytdlafigjkefllaa
