
/- The model's FormatInt returns the decimal numeral of its argument, for every 64-bit integer; it only makes new blocks. -/
import Derived.Test.YthpejolljkbenaaDoorRows
import Derived.Test.YthpejolljkbenaaDoorNumMath
import Derived.WalkKit
import Derived.Handy
import Derived.Outline
import Derived.Lib.Hide
import Derived.Laws.IdiomStrings
import Derived.Laws.BytesArg
import Derived.Laws.Concat
namespace Go.Proofs.YthpejolljkbenaaDoor
open Go.ChangeShapes Go.WideShapes Go.ChangeAt Go.RowKit
set_option linter.unusedVariables false

theorem one_byte (w : World) (z : Int) (T : TypeId) : (convert 57 9 (.slice (some { block := w.heap.size, off := 0 }) 1 1)).run Tryd.prog (w.alloc (.cells #[.int .u8 z] T)) = .ok (.string ⟨#[UInt8.ofNat z.toNat]⟩) (w.alloc (.cells #[.int .u8 z] T)) := by
  have h := run_convert_bytes_arg (P := Tryd.prog) (w.alloc (.cells #[.int .u8 z] T)) 57 5 Tryd.underlying57 Tryd.underlying5 w.heap.size 0 1 1 [z] rfl (fun i hi => by
    obtain rfl : i = 0 := by omega
    go_cell) 9 Tryd.underlying9
  rw [h]; rfl

theorem front (a : UInt8) (l : List UInt8) : (⟨#[a]⟩ ++ ⟨l.toArray⟩ : ByteArray) = ⟨(a :: l).toArray⟩ := by
  rw [ByteArray.mk_append_mk]; simp

theorem front3 (d : Nat) (l : List UInt8) : (⟨#[48 + UInt8.ofNat d]⟩ ++ ⟨l.toArray⟩ : ByteArray) = ⟨(UInt8.ofNat (48 + d) :: l).toArray⟩ := by
  rw [ByteArray.mk_append_mk, UInt8.ofNat_add]; simp

set_option maxRecDepth 100000 in
set_option maxHeartbeats 400000 in
theorem specFormatInt_pos (n : Nat) (hn : 1 ≤ n) (hm : n ≤ 9223372036854775807) (w : World) :
    Calls Tryd.prog 44 #[.int .i64 (n : Int)] w fun e w' => e = .returned (.string ⟨(Lib.decDigits n).toArray⟩) ∧ Below w.heap.size w w' := by
  have hb0 : (((n : Int)) == 0) = false := by simp; omega
  go_enter Tryd.func44, Tryd.ntmps44
  go_wp2
  go_loopw [3, 4] (fun s x wr => ∃ (v : Nat) (l : List UInt8), v ≤ n ∧ x = .int .i64 (v : Int) ∧ s = .string ⟨l.toArray⟩ ∧ Num.pre v ++ l = Lib.decDigits n ∧ Below w.heap.size w wr) (fun _ x _ => (intOf x).toNat)
  case atStart => exact ⟨n, [], Nat.le_refl _, rfl, rfl, by rw [Num.pre_pos (by omega)]; simp, Below.refl _ _⟩
  case round =>
    obtain ⟨v, l, hv, rfl, rfl, hl0, hbl⟩ := hrel
    have hll := Num.round_len (by omega) hl0
    have hl := Lib.hid hl0
    clear hl0
    by_cases h0 : v = 0
    · subst h0
      go_wp2
      go_ret
      refine ⟨?_, hbl⟩
      have := hl.out
      rw [Num.pre_zero] at this
      rw [← this]; rfl
    · have hb1 : (((v : Int)) != 0) = true := by simp; omega
      have hk := one_byte
      have ha := fun (a : UInt8) (w : World) => run_string_add_sum (P := Tryd.prog) (w := w) ⟨#[a]⟩ ⟨l.toArray⟩ (by simp [ByteArray.size]; omega)
      go_wp2
      go_roundw
      case rel =>
        refine ⟨v / 10, UInt8.ofNat (48 + v % 10) :: l, by omega, rfl, ?_, Num.round h0 hl.out, ?_⟩
        · rw [front3]
        · exact hbl.alloc hbl.size _
      case measure => (show ((v : Int) / 10).toNat < (v : Int).toNat); omega

theorem specFormatInt_zero (w : World) :
    Calls Tryd.prog 44 #[.int .i64 0] w fun e w' => e = .returned (.string ⟨(Lib.decDigits 0).toArray⟩) ∧ Below w.heap.size w w' := by
  go_enter Tryd.func44, Tryd.ntmps44
  go_wp2
  go_ret
  exact ⟨by rw [Lib.decDigits_one (by omega)]; rfl, Below.refl _ _⟩

theorem neg_div (v : Nat) : (-(v : Int)).tdiv 10 = -((v : Int) / 10) := by rw [Int.neg_tdiv]; rfl
theorem neg_mod (v : Nat) : (-(v : Int)).tmod 10 = -((v : Int) % 10) := by rw [Int.neg_tmod]; rfl

set_option maxRecDepth 100000 in
set_option maxHeartbeats 800000 in
theorem specFormatInt_neg (n : Nat) (hn : 1 ≤ n) (hm : n ≤ 9223372036854775808) (w : World) :
    Calls Tryd.prog 44 #[.int .i64 (-(n : Int))] w fun e w' => e = .returned (.string ⟨(45 :: Lib.decDigits n).toArray⟩) ∧ Below w.heap.size w w' := by
  have hb0 : ((-(n : Int)) == 0) = false := by simp; omega
  go_enter Tryd.func44, Tryd.ntmps44
  go_wp2
  go_loopw [3, 4] (fun s x wr => ∃ (v : Nat) (l : List UInt8), v ≤ n ∧ x = .int .i64 (-(v : Int)) ∧ s = .string ⟨l.toArray⟩ ∧ Num.pre v ++ l = Lib.decDigits n ∧ Below w.heap.size w wr) (fun _ x _ => (-(intOf x)).toNat)
  case atStart => exact ⟨n, [], Nat.le_refl _, rfl, rfl, by rw [Num.pre_pos (by omega)]; simp, Below.refl _ _⟩
  case round =>
    obtain ⟨v, l, hv, rfl, rfl, hl0, hbl⟩ := hrel
    have hll := Num.round_len (by omega) hl0
    have hl := Lib.hid hl0
    clear hl0
    have ha := fun (a : UInt8) (w : World) => run_string_add_sum (P := Tryd.prog) (w := w) ⟨#[a]⟩ ⟨l.toArray⟩ (by simp [ByteArray.size]; omega)
    by_cases h0 : v = 0
    · subst h0
      go_wp2
      go_ret
      refine ⟨?_, hbl⟩
      have := hl.out
      rw [Num.pre_zero] at this
      rw [← this]
      show Ending.returned (.string (⟨#[45]⟩ ++ ⟨l.toArray⟩)) = _
      rw [front]; rfl
    · have hb1 : ((-(v : Int)) != 0) = true := by simp; omega
      have hk := one_byte
      have hq := neg_div v
      have hr := neg_mod v
      by_cases hm0 : (v : Int) % 10 = 0
      · have hlt : ¬ (-((v : Int) % 10) < 0) := by omega
        go_wp2
        go_roundw
        case rel =>
          refine ⟨v / 10, UInt8.ofNat (48 + v % 10) :: l, by omega, rfl, ?_, Num.round h0 hl.out, ?_⟩
          · rw [show v % 10 = 0 by omega, ← front]; rfl
          · exact hbl.alloc hbl.size _
        case measure => (show (-(-((v : Int) / 10))).toNat < (-(-(v : Int))).toNat); omega
      · have hlt : (-((v : Int) % 10) < 0) := by omega
        go_wp2
        go_roundw
        case rel =>
          refine ⟨v / 10, UInt8.ofNat (48 + v % 10) :: l, by omega, rfl, ?_, Num.round h0 hl.out, ?_⟩
          · rw [← front3]
          · exact hbl.alloc hbl.size _
        case measure => (show (-(-((v : Int) / 10))).toNat < (-(-(v : Int))).toNat); omega

/-- The model's FormatInt at every 64-bit integer. -/
theorem specFormatInt (n : Int) (h0 : -9223372036854775808 ≤ n) (h1 : n ≤ 9223372036854775807) (w : World) :
    Calls Tryd.prog 44 #[.int .i64 n] w fun e w' => e = .returned (.string ⟨(Lib.itoa n).toArray⟩) ∧ Below w.heap.size w w' := by
  unfold Lib.itoa
  by_cases hn : n < 0
  · obtain ⟨u, hu⟩ : ∃ u : Nat, n = -(u : Int) := ⟨n.natAbs, by omega⟩
    subst hu
    rw [if_pos hn, show (-(u : Int)).natAbs = u by omega]
    exact specFormatInt_neg u (by omega) (by omega) w
  · rw [if_neg hn]
    obtain ⟨u, hu⟩ : ∃ u : Nat, n = (u : Int) := ⟨n.toNat, by omega⟩
    subst hu
    rw [Int.toNat_natCast]
    by_cases hz : u = 0
    · subst hz; exact specFormatInt_zero w
    · exact specFormatInt_pos u (by omega) (by omega) w

theorem specFormatInt_nat (u : Nat) (h1 : u ≤ 9223372036854775807) (w : World) :
    Calls Tryd.prog 44 #[.int .i64 (u : Int)] w fun e w' => e = .returned (.string ⟨(Lib.decDigits u).toArray⟩) ∧ Below w.heap.size w w' := by
  have h := specFormatInt (u : Int) (by omega) (by omega) w
  unfold Lib.itoa at h
  rwa [if_neg (by omega), Int.toNat_natCast] at h
end Go.Proofs.YthpejolljkbenaaDoor
