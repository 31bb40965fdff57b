
/- Whether two rows of integers are equal: the library, the program and the model. -/
import Derived.Test.YtkmofhpipcodbaaByteS
import Derived.Test.YtkmofhpipcodbaaSameInt
import Derived.Laws.BytesArg
namespace Go.Proofs.Ytkmofhpipcodbaa
open Go.ChangeShapes Go.WideShapes Go.ChangeAt Go.RowKit
set_option linter.unusedVariables false
theorem conv_str (a : Option Addr) (n c B : Nat) (xs : List Int) (w : World) (h : Has .u8 w B a n xs) : (convert 50 9 (.slice a n c)).run Try.prog w = .ok (.string (strOfNums xs)) w := by
  rcases Nat.eq_zero_or_pos n with h0 | h0
  · subst h0
    obtain rfl : xs = [] := List.eq_nil_of_length_eq_zero h.1
    rcases a with _ | ad
    · exact run_convert_bytes_nil w _ _ Try.underlying50 Try.underlying5 0 c _ Try.underlying9
    · rw [run_convert_bytes_string w _ _ _ _ 0 c Try.underlying50 Try.underlying5 Try.underlying9]
      simp [Conv.bytesToString, loadCells, loadCellsFrom]
      rfl
  · obtain ⟨b, off, rfl, _, hc⟩ := h.2 h0
    exact run_convert_bytes_arg w _ _ Try.underlying50 Try.underlying5 b off n c xs h.1 hc _ Try.underlying9
theorem str_inj {xs ys : List Int} (hx : ∀ z ∈ xs, (Lit.int .u8 z).wf = true) (hy : ∀ z ∈ ys, (Lit.int .u8 z).wf = true) (h : (xs.map fun n => UInt8.ofNat n.toNat) = (ys.map fun n => UInt8.ofNat n.toNat)) : xs = ys := by
  induction xs generalizing ys with
  | nil => cases ys with
    | nil => rfl
    | cons y ys => simp at h
  | cons x xs ih => cases ys with
    | nil => simp at h
    | cons y ys =>
      simp only [List.map_cons, List.cons.injEq] at h
      have h1 := u8_of (hx x (by simp))
      have h2 := u8_of (hy y (by simp))
      have h3 := congrArg UInt8.toNat h.1
      simp only [UInt8.toNat_ofNat'] at h3
      have h4 := ih (fun z hz => hx z (by simp [hz])) (fun z hz => hy z (by simp [hz])) h.2
      have h5 : x = y := by omega
      rw [h4, h5]
theorem str_eq {xs ys : List Int} (hx : ∀ z ∈ xs, (Lit.int .u8 z).wf = true) (hy : ∀ z ∈ ys, (Lit.int .u8 z).wf = true) : ((strOfNums xs).toList == (strOfNums ys).toList) = eqB xs ys := by
  rw [Bool.eq_iff_iff]
  rw [ByteArray.toList_eq, ByteArray.toList_eq, strOfNums_data, strOfNums_data]
  simp only [beq_iff_eq, eqB, decide_eq_true_eq]
  exact ⟨str_inj hx hy, fun h => by rw [h]⟩
theorem ret_b {a b : Bool} (h : a = b) : Ending.returned (.bool a) = .returned (.bool b) := by rw [h]
set_option maxHeartbeats 800000 in
theorem specEqualBytes (a a' : Option Addr) (n n' c c' B B' : Nat) (xs ys : List Int) (w : World) (h : Has .u8 w B a n xs) (h' : Has .u8 w B' a' n' ys) (hx : ∀ z ∈ xs, (Lit.int .u8 z).wf = true) (hy : ∀ z ∈ ys, (Lit.int .u8 z).wf = true) (hn : n ≤ 1073741824) (hn' : n' ≤ 1073741824) :
    Calls Try.prog 97 #[.slice a n c, .slice a' n' c'] w fun e w' => e = .returned (.bool (eqB xs ys)) ∧ w = w' := by
  have h1 := conv_str a n c B xs w h
  have h2 := conv_str a' n' c' B' ys w h'
  have HE := Lib.hid (str_eq hx hy)
  clear hx hy
  go_enter Try.func97, Try.ntmps97
  go_wp2
  go_ret
  exact ⟨ret_b HE.out, rfl⟩
end Go.Proofs.Ytkmofhpipcodbaa
