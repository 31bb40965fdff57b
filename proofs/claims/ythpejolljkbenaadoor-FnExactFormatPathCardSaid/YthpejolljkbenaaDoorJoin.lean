
/- Rows of strings; texts with blanks between them, or a dash. -/
import Derived.Test.YthpejolljkbenaaDoorFas
import Derived.Test.YthpejolljkbenaaDoorAppR
import Derived.Test.YthpejolljkbenaaDoorRet
namespace Go.Proofs.YthpejolljkbenaaDoor
open Go Go.ChangeShapes Go.WideShapes Go.ChangeAt Go.RowKit
set_option linter.unusedVariables false
def strC (x : ByteArray) (j : Nat) : Value := .string x
theorem oneStr : ∀ (x : ByteArray) (j : Nat), (strC x j).oneCell' = true := fun _ _ => rfl
theorem infoStr : (Tryd.prog.info? 9).map (fun i => (i.zero, i.size, i.bytes)) = some (some (.string ⟨#[]⟩), 1, 16) := by kernel_rfl
def tl (f : Nat → ByteArray) (k : Nat) : List ByteArray := (List.range k).map f
theorem tl_len (f : Nat → ByteArray) (k : Nat) : (tl f k).length = k := by simp [tl]
theorem tl_succ (f : Nat → ByteArray) (k : Nat) : tl f (k + 1) = tl f k ++ [f k] := by simp [tl, List.range_succ]
theorem tl_get (f : Nat → ByteArray) {k j : Nat} {x : ByteArray} (h : (tl f k)[j]? = some x) : j < k ∧ x = f j := by
  obtain ⟨hj, he⟩ := List.getElem?_eq_some_iff.1 h
  rw [tl_len] at hj
  exact ⟨hj, by rw [← he]; simp [tl]⟩
/-- The first k texts, a blank between any two. -/
def joF (f : Nat → ByteArray) : Nat → ByteArray
  | 0 => ⟨#[]⟩
  | k + 1 => (if k = 0 then joF f k else joF f k ++ ⟨#[32]⟩) ++ f k
def jdF (f : Nat → ByteArray) (n : Nat) : ByteArray := if n = 0 then ⟨#[45]⟩ else joF f n
theorem joF_size {f : Nat → ByteArray} {n m : Nat} (hf : ∀ k, k < n → (f k).size ≤ m) : ∀ k, k ≤ n → (joF f k).size ≤ (m + 1) * k
  | 0, _ => Nat.le_of_eq rfl
  | k + 1, h => by
    have h1 := joF_size hf k (by omega)
    have h2 := hf k (by omega)
    have h3 : (m + 1) * (k + 1) = (m + 1) * k + (m + 1) := Nat.mul_succ _ _
    rw [joF, ByteArray.size_append]
    split
    · omega
    · rw [ByteArray.size_append]
      have : (⟨#[32]⟩ : ByteArray).size = 1 := rfl
      omega
theorem data_app (a b : ByteArray) : (a ++ b).data.toList = a.data.toList ++ b.data.toList := by
  rw [ByteArray.data_append, Array.toList_append]
theorem join_snoc (L : List (List UInt8)) (l sep : List UInt8) (h : L ≠ []) : Lib.join (L ++ [l]) sep = Lib.join L sep ++ sep ++ l := by
  cases L with
  | nil => exact absurd rfl h
  | cons x r => rw [List.cons_append, Lib.join_cons, Lib.join_cons]; simp [Lib.joinTail]
theorem joF_join (f : Nat → ByteArray) : ∀ k, 0 < k → (joF f k).data.toList = Lib.join ((tl f k).map (·.data.toList)) [32]
  | 0, h => absurd h (by omega)
  | 1, _ => by
    show (⟨#[]⟩ ++ f 0 : ByteArray).data.toList = _
    rw [data_app]
    simp [tl, Lib.join_one]
  | k + 2, _ => by
    have ih := joF_join f (k + 1) (by omega)
    rw [joF, if_neg (by omega), data_app, data_app, ih, tl_succ f (k + 1), List.map_append, List.map_cons, List.map_nil, join_snoc _ _ _ (by rw [tl_succ]; simp)]
theorem retJ {f : Nat → ByteArray} {n : Nat} (h : 0 < n) : (⟨(Lib.join ((tl f n).map (·.data.toList)) [32]).toArray⟩ : ByteArray) = jdF f n := by
  rw [← joF_join f n h, jdF, if_neg (by omega)]
set_option maxRecDepth 100000 in
set_option maxHeartbeats 4000000 in
theorem implJoD (f : Nat → ByteArray) (a : Option Addr) (n c B : Nat) (w : World) (h : HasR 1 strC w B a n (tl f n)) (hB : B ≤ w.heap.size) (hn : n ≤ 1048576) (hc : n ≤ c) (hf : ∀ k, k < n → (f k).size ≤ 1000) :
    Calls Tryd.prog 33 #[.slice a n c] w fun e w' => e = .returned (.string (jdF f n)) ∧ Mk0 w w' := by
  by_cases hz : n = 0
  · subst hz
    go_enter Tryd.func33, Tryd.ntmps33
    go_wp2_with fail
    go_ret
    exact ⟨rfl, Mk.refl _ _ _⟩
  · obtain ⟨b, off, rfl, hb, hcell⟩ := h.2 (by omega)
    have hcells : ∀ (j : Nat) x, (tl f n)[j]? = some x → w.cell? ⟨b, off + j, none⟩ = some (.string x) := fun j x hx => by
      obtain ⟨hj, rfl⟩ := tl_get f hx
      rw [hcell j (by omega)]
      unfold flat strC
      rw [Nat.div_one]
      congr 1
      simp [tl, List.getD_eq_getElem?_getD, hj]
    have hsz := joF_size hf n (Nat.le_refl _)
    have hlen : (Lib.join ((tl f n).map (·.data.toList)) (⟨#[32]⟩ : ByteArray).data.toList).length ≤ 140737488355328 := by
      show (Lib.join ((tl f n).map (·.data.toList)) [32]).length ≤ _
      rw [← joF_join f n (by omega)]
      have hs : (joF f n).data.toList.length = (joF f n).size := rfl
      rw [hs]
      have : 1001 * n ≤ 1001 * 1048576 := Nat.mul_le_mul_left _ hn
      omega
    have HJ := Lib.hid (Tryd.strings_Join b off c (tl f n) ⟨#[32]⟩ w hcells (by omega) (by rw [tl_len]; omega) (by rw [tl_len]; exact hc) hlen)
    rw [tl_len] at HJ
    have i1 : (0 : Int) < (n : Int) := by omega
    clear hcells hlen hsz hcell
    go_enter Tryd.func33, Tryd.ntmps33
    go_wp2_with fail
    refine HJ.out.mono ?_
    rintro e w2 ⟨rfl, b2⟩
    go_wp2_with fail
    go_ret
    exact ⟨retT (retJ (by omega)), Mk.of_below b2⟩

end Go.Proofs.YthpejolljkbenaaDoor
