/- ParseInt, the model's and the program's, at every string: both return the number and true where the string is accepted, else 0 and false. -/
import Derived.Test.YtkplenmjmnaniaaDoorFmt
import Derived.Test.YtkplenmjmnaniaaDoorParseMath
namespace Go.Proofs.YtkplenmjmnaniaaDoor
open Go.ChangeShapes Go.WideShapes Go.ChangeAt Go.RowKit
set_option linter.unusedVariables false

theorem take_snoc (s : ByteArray) (k : Nat) (h : k < s.size) : s.data.toList.take (k + 1) = s.data.toList.take k ++ [s[k]] := by
  rw [List.take_succ_eq_append_getElem (by simpa using h)]; rfl

theorem ret_num {a b : Int} {x y : Bool} (h : a = b) (h' : x = y) : Ending.returned (.tuple #[.int .i64 a, .bool x]) = .returned (.tuple #[.int .i64 b, .bool y]) := by rw [h, h']

theorem mem_at (s : ByteArray) (k : Nat) (h : k < s.size) : s[k] ∈ s.data.toList := by
  show (s.data[k]'(by simpa using h)) ∈ s.data.toList
  simp

set_option maxRecDepth 100000 in
set_option maxHeartbeats 800000 in
theorem specParse_mid (s : ByteArray) (w : World) (h1 : 1 ≤ s.size) (h2 : s.size ≤ 13) :
    Calls Tryd.prog 10 #[.string s] w fun e w' => e = .returned (.tuple #[.int .i64 (Num.pVal s.data.toList), .bool (Num.pOk s.data.toList)]) ∧ Below w.heap.size w w' := by
  have b2 : decide ((s.size : Int) ≤ 13) = true := by simp; omega
  go_enter Tryd.func10, Tryd.ntmps10
  go_wp2
  go_loopw [2, 3, 4, 5] (fun r0 r1 n i wr => r0 = .int .i64 0 ∧ r1 = .bool false ∧ ∃ k : Nat, k ≤ s.size ∧ i = .int .i64 k ∧ n = .int .i64 (Num.val (s.data.toList.take k) : Nat) ∧ (∀ c ∈ s.data.toList.take k, Num.isDig c) ∧ wr = w) (fun _ _ _ i _ => s.size - (intOf i).toNat)
  case atStart => exact ⟨rfl, rfl, 0, Nat.zero_le _, rfl, rfl, by simp, rfl⟩
  case round =>
    obtain ⟨rfl, rfl, k, hk, rfl, rfl, hd0, rfl⟩ := hrel
    have hlen : (s.data.toList.take k).length ≤ 13 := Nat.le_trans (List.length_take_le _ _) (by omega)
    have hv : Num.val (s.data.toList.take k) < 10 ^ 13 := Nat.lt_of_lt_of_le (Num.val_lt _ hd0) (Nat.pow_le_pow_right (by omega) hlen)
    by_cases hlt : k < s.size
    · by_cases hdig : Num.isDig s[k]
      · have hdig' := hdig
        obtain ⟨c1, c2⟩ := hdig'
        have hd := Lib.hid hd0
        clear hd0
        have b3 : decide ((s[k].toNat : Int) ≤ 57) = true := by simp; omega
        have b4 : (48 : Int) ≤ (s[k].toNat : Int) := by omega
        go_wp2
        go_roundw
        case rel =>
          refine ⟨rfl, rfl, k + 1, by omega, by go_num, ?_, ?_, trivial⟩
          · rw [take_snoc s k hlt, Num.val_snoc]
            exact congrArg (Value.int .i64) (by omega)
          · rw [take_snoc s k hlt]
            intro c hc
            rcases List.mem_append.1 hc with h | h
            · exact hd.out c h
            · rw [List.mem_singleton.1 h]; exact hdig
        case measure => (show s.size - ((k : Int) + 1).toNat < s.size - (k : Int).toNat); omega
      · have hno : ¬ Num.good s.data.toList := by
          intro hg
          exact hdig (hg.2.2.1 _ (mem_at s k hlt))
        have hr1 := Lib.hid (Num.pOk_no hno)
        have hr2 := Lib.hid (Num.pVal_no hno)
        have hd := Lib.hid hd0
        clear hd0
        have hb := s[k].toNat_lt
        by_cases c1 : 48 ≤ s[k].toNat
        · have c2 : 57 < s[k].toNat := by unfold Num.isDig at hdig; omega
          have b3 : decide ((s[k].toNat : Int) ≤ 57) = false := by simp; omega
          have b4 : (48 : Int) ≤ (s[k].toNat : Int) := by omega
          go_wp2
          go_ret2
          exact ⟨ret_num hr2.out.symm hr1.out.symm, Below.refl _ _⟩
        · have b4 : ((s[k].toNat : Int)) < 48 := by omega
          go_wp2
          go_ret2
          exact ⟨ret_num hr2.out.symm hr1.out.symm, Below.refl _ _⟩
    · obtain rfl : k = s.size := by omega
      have hall : s.data.toList.take s.size = s.data.toList := List.take_of_length_le (by rw [Array.length_toList]; exact Nat.le_refl _)
      rw [hall] at hd0 hv ⊢
      have hd := Lib.hid hd0
      clear hd0 hall hlen
      by_cases hbig : 1000000000000 < Num.val s.data.toList
      · have hno : ¬ Num.good s.data.toList := fun hg => by have := hg.2.2.2; omega
        have hr1 := Lib.hid (Num.pOk_no hno)
        have hr2 := Lib.hid (Num.pVal_no hno)
        have b5 : decide ((1000000000000 : Int) < (Num.val s.data.toList : Nat)) = true := by simp; omega
        go_wp2
        go_ret2
        exact ⟨ret_num hr2.out.symm hr1.out.symm, Below.refl _ _⟩
      · have b5 : decide ((1000000000000 : Int) < (Num.val s.data.toList : Nat)) = false := by simp; omega
        go_wp2_with fail
        refine (specFormatInt_nat (Num.val s.data.toList) (by omega) _).mono ?_
        rintro e w1 ⟨rfl, hb1⟩
        by_cases hn : Lib.decDigits (Num.val s.data.toList) = s.data.toList
        · have hg : Num.good s.data.toList := Num.numeral_good (by rw [Array.length_toList]; exact h1) hd.out (by omega) hn
          have hr1 := Lib.hid (Num.pOk_yes hg)
          have hr2 := Lib.hid (Num.pVal_yes hg)
          clear hg
          go_wp2_with fail
          go_ret2
          exact ⟨ret_num hr2.out.symm hr1.out.symm, hb1⟩
        · have hno : ¬ Num.good s.data.toList := fun hg => hn (Num.good_numeral hg).2.2
          have hr1 := Lib.hid (Num.pOk_no hno)
          have hr2 := Lib.hid (Num.pVal_no hno)
          have hn2 : (Lib.decDigits (Num.val s.data.toList) == s.toList) = false := by rw [ByteArray.toList_eq]; simpa using hn
          clear hno
          go_wp2_with fail
          go_ret2
          exact ⟨ret_num hr2.out.symm hr1.out.symm, hb1⟩

set_option maxRecDepth 100000 in
theorem specParse_out (s : ByteArray) (w : World) (hs : s.size ≤ maxLen) (h : s.size = 0 ∨ 13 < s.size) :
    Calls Tryd.prog 10 #[.string s] w fun e w' => e = .returned (.tuple #[.int .i64 (Num.pVal s.data.toList), .bool (Num.pOk s.data.toList)]) ∧ Below w.heap.size w w' := by
  unfold maxLen at hs
  have hno : ¬ Num.good s.data.toList := by
    intro hg
    have := Num.good_numeral hg
    rw [Array.length_toList] at this
    have e : s.data.size = s.size := rfl
    omega
  have hr1 := Lib.hid (Num.pOk_no hno)
  have hr2 := Lib.hid (Num.pVal_no hno)
  clear hno
  by_cases h0 : 1 ≤ s.size
  · have b2 : decide ((s.size : Int) ≤ 13) = false := by simp; omega
    have h0' : (1 : Int) ≤ s.size := by omega
    go_enter Tryd.func10, Tryd.ntmps10
    go_wp2
    go_ret2
    exact ⟨ret_num hr2.out.symm hr1.out.symm, Below.refl _ _⟩
  · have h0' : (s.size : Int) < 1 := by omega
    go_enter Tryd.func10, Tryd.ntmps10
    go_wp2
    go_ret2
    exact ⟨ret_num hr2.out.symm hr1.out.symm, Below.refl _ _⟩

theorem specParse (s : ByteArray) (w : World) (hs : s.size ≤ maxLen) :
    Calls Tryd.prog 10 #[.string s] w fun e w' => e = .returned (.tuple #[.int .i64 (Num.pVal s.data.toList), .bool (Num.pOk s.data.toList)]) ∧ Below w.heap.size w w' := by
  by_cases h : 1 ≤ s.size ∧ s.size ≤ 13
  · exact specParse_mid s w h.1 h.2
  · exact specParse_out s w hs (by omega)

theorem isEmpty_no {s : ByteArray} (h : s.size ≠ 0) : s.toList.isEmpty = false := by
  rw [ByteArray.toList_eq, List.isEmpty_eq_false_iff, ← List.length_pos_iff, Array.length_toList]
  show 0 < s.size
  omega
theorem isEmpty_yes {s : ByteArray} (h : s.size = 0) : s.toList.isEmpty = true := by
  rw [ByteArray.toList_eq, List.isEmpty_iff, ← List.length_eq_zero_iff, Array.length_toList]
  exact h

theorem head_at (s : ByteArray) (h : 0 < s.size) : s.data.toList.head? = some s[0] := by
  rw [List.head?_eq_getElem?, List.getElem?_eq_getElem (by rw [Array.length_toList]; exact h)]
  rfl

set_option maxRecDepth 100000 in
set_option maxHeartbeats 400000 in
theorem implParse_zero (s : ByteArray) (w : World) (hs : s.size ≤ maxLen) (h : s.size = 0 ∨ ∃ h : 1 < s.size, (s[0]'(by omega)).toNat = 48) :
    Calls Tryd.prog 8 #[.string s] w fun e w' => e = .returned (.tuple #[.int .i64 (Num.pVal s.data.toList), .bool (Num.pOk s.data.toList)]) ∧ w = w' := by
  unfold maxLen at hs
  have hno : ¬ Num.good s.data.toList := by
    intro hg
    rcases h with h | ⟨h, h48⟩
    · have := Num.good_numeral hg
      rw [Array.length_toList] at this
      have e : s.data.size = s.size := rfl
      omega
    · refine hg.2.1 ⟨by rw [Array.length_toList]; exact h, ?_⟩
      rw [head_at s (by omega), UInt8.toNat.inj (show s[0].toNat = (48 : UInt8).toNat from h48)]
  have hr1 := Lib.hid (Num.pOk_no hno)
  have hr2 := Lib.hid (Num.pVal_no hno)
  clear hno
  rcases h with h | ⟨h, h48⟩
  · have hb := isEmpty_yes h
    go_enter Tryd.func8, Tryd.ntmps8
    go_wp2
    go_ret2
    exact ⟨ret_num hr2.out.symm hr1.out.symm, rfl⟩
  · have hb := isEmpty_no (s := s) (by omega)
    have h0 : 0 < s.size := by omega
    have b1 : (((s[0].toNat : Int)) == 48) = true := by simp; omega
    have h1 : (1 : Int) < s.size := by omega
    clear h48 h
    go_enter Tryd.func8, Tryd.ntmps8
    go_wp2
    go_ret2
    exact ⟨ret_num hr2.out.symm hr1.out.symm, rfl⟩

set_option maxRecDepth 100000 in
set_option maxHeartbeats 1000000 in
theorem implParse_rest (s : ByteArray) (w : World) (hs : s.size ≤ maxLen) (h : s.size = 1 ∨ ∃ h : 1 < s.size, (s[0]'(by omega)).toNat ≠ 48) :
    Calls Tryd.prog 8 #[.string s] w fun e w' => e = .returned (.tuple #[.int .i64 (Num.pVal s.data.toList), .bool (Num.pOk s.data.toList)]) ∧ w = w' := by
  unfold maxLen at hs
  have hlead : ¬ (1 < s.data.toList.length ∧ s.data.toList.head? = some 48) := by
    rw [Array.length_toList]
    rintro ⟨h1, h2⟩
    have e : s.data.size = s.size := rfl
    rcases h with h | ⟨h, h48⟩
    · omega
    · rw [head_at s (by omega)] at h2
      exact h48 (by rw [Option.some.inj h2]; rfl)
  have hne : s.data.toList ≠ [] := by
    intro hc
    have := congrArg List.length hc
    rw [Array.length_toList] at this
    have e : s.data.size = s.size := rfl
    simp only [List.length_nil] at this
    rcases h with h | ⟨h, _⟩ <;> omega
  have hgo : ∀ l : List UInt8, s.data.toList = l → (∀ c ∈ l, Num.isDig c) → Num.val l ≤ 1000000000000 → Num.good s.data.toList := by
    rintro l rfl h1 h2
    exact ⟨hne, hlead, h1, h2⟩
  have HG := Lib.hid hgo
  clear hgo hlead hne
  have hb := isEmpty_no (s := s) (by rcases h with h | ⟨h, _⟩ <;> omega)
  have h0 : 0 < s.size := by rcases h with h | ⟨h, _⟩ <;> omega
  have hcase : (¬ (1 : Int) < s.size) ∨ ((1 : Int) < s.size ∧ (((s[0].toNat : Int)) == 48) = false) := by
    rcases h with h | ⟨h, h48⟩
    · left; omega
    · right; exact ⟨by omega, by simp; omega⟩
  clear h
  rcases hcase with h1 | ⟨h1, b1⟩
  all_goals
    go_enter Tryd.func8, Tryd.ntmps8
    go_wp2
    go_loopw [2, 3, 4, 5] (fun r0 r1 n i wr => r0 = .int .i64 0 ∧ r1 = .bool false ∧ ∃ k : Nat, k ≤ s.size ∧ i = .int .i64 k ∧ n = .int .i64 (Num.val (s.data.toList.take k) : Nat) ∧ (∀ c ∈ s.data.toList.take k, Num.isDig c) ∧ Num.val (s.data.toList.take k) ≤ 1000000000000 ∧ wr = w) (fun _ _ _ i _ => s.size - (intOf i).toNat)
    case atStart => exact ⟨rfl, rfl, 0, Nat.zero_le _, rfl, rfl, by simp, by simp [Num.val_nil], rfl⟩
    case round =>
      obtain ⟨rfl, rfl, k, hk, rfl, rfl, hd0, hv, rfl⟩ := hrel
      by_cases hlt : k < s.size
      · by_cases hdig : Num.isDig s[k]
        · have hdig' := hdig
          obtain ⟨c1, c2⟩ := hdig'
          have hd := Lib.hid hd0
          clear hd0
          have b3 : decide ((s[k].toNat : Int) < 48) = false := by simp; omega
          have b4 : decide ((57 : Int) < (s[k].toNat : Int)) = false := by simp; omega
          have hmul := Num.val_snoc (s.data.toList.take k) s[k]
          rw [← take_snoc s k hlt] at hmul
          by_cases hbig : Num.val (s.data.toList.take (k + 1)) ≤ 1000000000000
          · have hbig' : (Num.val (s.data.toList.take k) : Int) * 10 + ((s[k].toNat : Int) - 48) ≤ 1000000000000 := by omega
            have hm := Lib.hid hmul
            clear hmul
            go_wp2
            go_roundw
            case rel =>
              refine ⟨rfl, rfl, k + 1, by omega, by go_num, ?_, ?_, hbig, trivial⟩
              · rw [hm.out]
                exact congrArg (Value.int .i64) (by omega)
              · rw [take_snoc s k hlt]
                intro c hc
                rcases List.mem_append.1 hc with h | h
                · exact hd.out c h
                · rw [List.mem_singleton.1 h]; exact hdig
            case measure => (show s.size - ((k : Int) + 1).toNat < s.size - (k : Int).toNat); omega
          · have hno : ¬ Num.good s.data.toList := by
              intro hg
              have := Num.val_mono (s.data.toList.take (k + 1)) (s.data.toList.drop (k + 1))
              rw [List.take_append_drop] at this
              have := hg.2.2.2
              omega
            have hr1 := Lib.hid (Num.pOk_no hno)
            have hr2 := Lib.hid (Num.pVal_no hno)
            have hbig' : 1000000000000 < (Num.val (s.data.toList.take k) : Int) * 10 + ((s[k].toNat : Int) - 48) := by omega
            have hm := Lib.hid hmul
            clear hmul hno
            go_wp2
            go_ret2
            exact ⟨ret_num hr2.out.symm hr1.out.symm, rfl⟩
        · have hno : ¬ Num.good s.data.toList := by
            intro hg
            exact hdig (hg.2.2.1 _ (mem_at s k hlt))
          have hr1 := Lib.hid (Num.pOk_no hno)
          have hr2 := Lib.hid (Num.pVal_no hno)
          have hd := Lib.hid hd0
          clear hd0 hno
          have hb := s[k].toNat_lt
          by_cases c1 : 48 ≤ s[k].toNat
          · have c2 : 57 < s[k].toNat := by unfold Num.isDig at hdig; omega
            have b3 : decide ((s[k].toNat : Int) < 48) = false := by simp; omega
            have b4 : decide ((57 : Int) < (s[k].toNat : Int)) = true := by simp; omega
            go_wp2
            go_ret2
            exact ⟨ret_num hr2.out.symm hr1.out.symm, rfl⟩
          · have b3 : decide ((s[k].toNat : Int) < 48) = true := by simp; omega
            go_wp2
            go_ret2
            exact ⟨ret_num hr2.out.symm hr1.out.symm, rfl⟩
      · obtain rfl : k = s.size := by omega
        have hall : s.data.toList.take s.size = s.data.toList := List.take_of_length_le (by rw [Array.length_toList]; exact Nat.le_refl _)
        rw [hall] at hd0 hv ⊢
        have hg : Num.good s.data.toList := HG.out _ rfl hd0 hv
        have hr1 := Lib.hid (Num.pOk_yes hg)
        have hr2 := Lib.hid (Num.pVal_yes hg)
        clear hd0 hall hg
        go_wp2
        go_ret2
        exact ⟨ret_num hr2.out.symm hr1.out.symm, rfl⟩

theorem implParse (s : ByteArray) (w : World) (hs : s.size ≤ maxLen) :
    Calls Tryd.prog 8 #[.string s] w fun e w' => e = .returned (.tuple #[.int .i64 (Num.pVal s.data.toList), .bool (Num.pOk s.data.toList)]) ∧ w = w' := by
  by_cases h0 : s.size = 0
  · exact implParse_zero s w hs (Or.inl h0)
  by_cases h1 : s.size = 1
  · exact implParse_rest s w hs (Or.inl h1)
  by_cases h2 : (s[0]'(by omega)).toNat = 48
  · exact implParse_zero s w hs (Or.inr ⟨by omega, h2⟩)
  · exact implParse_rest s w hs (Or.inr ⟨by omega, h2⟩)
end Go.Proofs.YtkplenmjmnaniaaDoor
