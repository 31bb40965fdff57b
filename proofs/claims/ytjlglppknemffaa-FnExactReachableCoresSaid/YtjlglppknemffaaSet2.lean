
/- Sets by their elements; what is reached by steps. -/
import Derived.Test.YtjlglppknemffaaNb
import Derived.Test.YtjlglppknemffaaSeen
import Derived.Test.YtjlglppknemffaaMakeSet
import Derived.Test.YtjlglppknemffaaIter
namespace Go.Proofs.Ytjlglppknemffaa
open Go.ChangeShapes Go.WideShapes Go.ChangeAt Go.RowKit
set_option linter.unusedVariables false
def VS (s : Int) : Prop := 0 ≤ s ∧ s ≤ 65535
theorem set_ext {s t : Int} (hs : VS s) (ht : VS t) (h : ∀ j : Int, 0 ≤ j → j ≤ 15 → hasB s j = hasB t j) : s = t := by
  obtain ⟨x, rfl⟩ := Int.eq_ofNat_of_zero_le hs.1
  obtain ⟨y, rfl⟩ := Int.eq_ofNat_of_zero_le ht.1
  have hx : x ≤ 65535 := by have := hs.2; omega
  have hy : y ≤ 65535 := by have := ht.2; omega
  congr 1
  refine Nat.eq_of_testBit_eq fun i => ?_
  rcases Nat.lt_or_ge i 16 with hi | hi
  · have := h (i : Int) (by omega) (by omega)
    rwa [hasB_nat x i hx (by omega), hasB_nat y i hy (by omega)] at this
  · have h2 : (2 : Nat) ^ 16 ≤ 2 ^ i := Nat.pow_le_pow_right (by decide) hi
    have h3 : (2 : Nat) ^ 16 = 65536 := by decide
    rw [Nat.testBit_lt_two_pow (by omega), Nat.testBit_lt_two_pow (by omega)]
theorem VS_zero : VS 0 := ⟨by decide, by decide⟩
theorem addV_any {s : Int} (hs : VS s) (i : Int) : VS (addV s i) ∧ ∀ j : Int, 0 ≤ j → j ≤ 15 → hasB (addV s i) j = ((i == j) || hasB s j) := by
  by_cases hi : 0 ≤ i ∧ i ≤ 15
  · exact ⟨addV_ok s i hs.1 hs.2 hi.1 hi.2, fun j h1 h2 => hasB_addV s i j hs.1 hs.2 hi.1 hi.2 h1 h2⟩
  · have e : addV s i = s := by
      unfold addV
      rw [if_neg (fun h => hi ⟨h.2.2.1, h.2.2.2⟩)]
    rw [e]
    refine ⟨hs, fun j h1 h2 => ?_⟩
    have : (i == j) = false := by simp; omega
    rw [this, Bool.false_or]
theorem uniV_ok {a b : Int} (ha : VS a) (hb : VS b) : VS (uniV a b) ∧ ∀ j : Int, 0 ≤ j → j ≤ 15 → hasB (uniV a b) j = (hasB a j || hasB b j) := by
  obtain ⟨x, rfl⟩ := Int.eq_ofNat_of_zero_le ha.1
  obtain ⟨y, rfl⟩ := Int.eq_ofNat_of_zero_le hb.1
  have hx : x ≤ 65535 := by have := ha.2; omega
  have hy : y ≤ 65535 := by have := hb.2; omega
  have e : uniV (x : Int) (y : Int) = ((x ||| y : Nat) : Int) := by
    unfold uniV
    rw [if_pos ⟨by omega, by omega, by omega, by omega⟩, or_nat x y (by omega) (by omega)]
  have hl : x ||| y < 2 ^ 16 := Nat.or_lt_two_pow (by omega) (by omega)
  have h3 : (2 : Nat) ^ 16 = 65536 := by decide
  rw [e]
  refine ⟨⟨by omega, by omega⟩, fun j h1 h2 => ?_⟩
  obtain ⟨q, rfl⟩ := Int.eq_ofNat_of_zero_le h1
  rw [hasB_nat _ _ (by omega) (by omega), hasB_nat _ _ hx (by omega), hasB_nat _ _ hy (by omega), Nat.testBit_or]
theorem inUp_iff (f : Nat → Int) (x : Int) : ∀ n, inUp f x n = true ↔ ∃ k, k < n ∧ f k = x
  | 0 => by simp [inUp]
  | n + 1 => by
    rw [inUp, Bool.or_eq_true, inUp_iff f x n, beq_iff_eq]
    constructor
    · rintro (h | ⟨k, hk, h⟩)
      · exact ⟨n, by omega, h⟩
      · exact ⟨k, by omega, h⟩
    · rintro ⟨k, hk, h⟩
      by_cases e : k = n
      · subst e; exact .inl h
      · exact .inr ⟨k, by omega, h⟩
theorem msN_ok (zs : List Int) : ∀ k, VS (msN zs k) ∧ ∀ j : Int, 0 ≤ j → j ≤ 15 → hasB (msN zs k) j = inUp (fun q => zs.getD q 0) j k
  | 0 => ⟨VS_zero, fun j _ _ => hasB_zero j⟩
  | k + 1 => by
    obtain ⟨h1, h2⟩ := msN_ok zs k
    obtain ⟨h3, h4⟩ := addV_any h1 (zs.getD k 0)
    exact ⟨h3, fun j a b => by rw [msN, h4 j a b, h2 j a b, inUp]⟩
theorem elN_mem (s x : Int) : ∀ k, x ∈ elN s k ↔ ∃ q : Nat, q < k ∧ x = (q : Int) ∧ hasB s x = true
  | 0 => by simp [elN]
  | k + 1 => by
    rw [elN]
    split
    · rename_i h
      rw [List.mem_append, elN_mem s x k, List.mem_singleton]
      constructor
      · rintro (⟨q, hq, e, hb⟩ | e)
        · exact ⟨q, by omega, e, hb⟩
        · exact ⟨k, by omega, e, e ▸ h⟩
      · rintro ⟨q, hq, e, hb⟩
        by_cases e2 : q = k
        · subst e2; exact .inr e
        · exact .inl ⟨q, by omega, e, hb⟩
    · rename_i h
      rw [elN_mem s x k]
      constructor
      · rintro ⟨q, hq, e, hb⟩
        exact ⟨q, by omega, e, hb⟩
      · rintro ⟨q, hq, e, hb⟩
        by_cases e2 : q = k
        · subst e2; rw [e] at hb; exact absurd hb h
        · exact ⟨q, by omega, e, hb⟩
theorem elN_in {s x : Int} (h : x ∈ elN s 16) : 0 ≤ x ∧ x ≤ 15 ∧ hasB s x = true := by
  obtain ⟨q, hq, e, hb⟩ := (elN_mem s x 16).1 h
  exact ⟨by omega, by omega, hb⟩
theorem mem_elN {s x : Int} (h1 : 0 ≤ x) (h2 : x ≤ 15) : x ∈ elN s 16 ↔ hasB s x = true :=
  ⟨fun h => (elN_in h).2.2, fun h => (elN_mem s x 16).2 ⟨x.toNat, by omega, by omega, h⟩⟩
/-- The set of a set's elements is the set. -/
theorem msN_elN {s : Int} (hs : VS s) : msN (elN s 16) (elN s 16).length = s := by
  obtain ⟨h1, h2⟩ := msN_ok (elN s 16) (elN s 16).length
  refine set_ext h1 hs fun j a b => ?_
  rw [h2 j a b, Bool.eq_iff_iff, inUp_iff, ← mem_elN a b, List.mem_iff_getElem]
  constructor
  · rintro ⟨k, hk, e⟩
    exact ⟨k, hk, by rw [← e]; simp [List.getD_eq_getElem?_getD, hk]⟩
  · rintro ⟨k, hk, e⟩
    exact ⟨k, hk, by rw [← e]; simp [List.getD_eq_getElem?_getD, hk]⟩
theorem nbUp_VS (zl : List TLink) (n1 : Nat) (r : Int) (L : List Int) : ∀ k, VS (nbUp zl n1 r L k)
  | 0 => VS_zero
  | k + 1 => (addV_any (nbUp_VS zl n1 r L k) _).1
theorem nbS_VS (zl : List TLink) (n1 : Nat) (r kd : Int) : VS (nbS zl n1 r kd) := nbUp_VS _ _ _ _ _
/-- The neighbours of all that a list names, added to a set. -/
def naL (zl : List TLink) (n1 : Nat) (kd s : Int) (L : List Int) : Int := L.foldl (fun acc x => uniV acc (nbS zl n1 x kd)) s
theorem naL_ok (zl : List TLink) (n1 : Nat) (kd : Int) : ∀ (L : List Int) {s : Int}, VS s → VS (naL zl n1 kd s L) ∧ ∀ j : Int, 0 ≤ j → j ≤ 15 → hasB (naL zl n1 kd s L) j = (hasB s j || L.any fun x => hasB (nbS zl n1 x kd) j)
  | [], s, h => ⟨h, fun j _ _ => by simp [naL]⟩
  | x :: L, s, h => by
    obtain ⟨h1, h2⟩ := uniV_ok h (nbS_VS zl n1 x kd)
    obtain ⟨h3, h4⟩ := naL_ok zl n1 kd L h1
    refine ⟨h3, fun j a b => ?_⟩
    have : naL zl n1 kd s (x :: L) = naL zl n1 kd (uniV s (nbS zl n1 x kd)) L := rfl
    rw [this, h4 j a b, h2 j a b, List.any_cons, Bool.or_assoc]
/-- The neighbours of all elements of a set; and with the set itself. -/
def uS (zl : List TLink) (n1 : Nat) (kd s : Int) : Int := naL zl n1 kd 0 (elN s 16)
def pS (zl : List TLink) (n1 : Nat) (kd s : Int) : Int := uniV s (uS zl n1 kd s)
theorem uS_VS (zl : List TLink) (n1 : Nat) (kd s : Int) : VS (uS zl n1 kd s) := (naL_ok zl n1 kd _ VS_zero).1
theorem uS_has (zl : List TLink) (n1 : Nat) (kd s : Int) {j : Int} (a : 0 ≤ j) (b : j ≤ 15) : hasB (uS zl n1 kd s) j = (elN s 16).any fun x => hasB (nbS zl n1 x kd) j := by
  unfold uS
  rw [(naL_ok zl n1 kd _ VS_zero).2 j a b, hasB_zero, Bool.false_or]
theorem pS_VS {zl : List TLink} {n1 : Nat} {kd s : Int} (h : VS s) : VS (pS zl n1 kd s) := (uniV_ok h (uS_VS _ _ _ _)).1
theorem pS_has {zl : List TLink} {n1 : Nat} {kd s : Int} (h : VS s) {j : Int} (a : 0 ≤ j) (b : j ≤ 15) : hasB (pS zl n1 kd s) j = (hasB s j || hasB (uS zl n1 kd s) j) := (uniV_ok h (uS_VS _ _ _ _)).2 j a b
/-- The model's pass is the program's. -/
theorem naL_pS {zl : List TLink} {n1 : Nat} {kd s : Int} (h : VS s) : naL zl n1 kd s (elN s 16) = pS zl n1 kd s := by
  obtain ⟨h1, h2⟩ := naL_ok zl n1 kd (elN s 16) h
  exact set_ext h1 (pS_VS h) fun j a b => by rw [h2 j a b, pS_has h a b, uS_has _ _ _ _ a b]
def itP (zl : List TLink) (n1 : Nat) (kd s : Int) : Nat → Int
  | 0 => s
  | k + 1 => pS zl n1 kd (itP zl n1 kd s k)
theorem itP_VS {zl : List TLink} {n1 : Nat} {kd s : Int} (h : VS s) : ∀ k, VS (itP zl n1 kd s k)
  | 0 => h
  | k + 1 => pS_VS (itP_VS h k)
theorem itP_stop {zl : List TLink} {n1 : Nat} {kd s : Int} {k : Nat} (h : itP zl n1 kd s (k + 1) = itP zl n1 kd s k) : ∀ n, k ≤ n → itP zl n1 kd s n = itP zl n1 kd s k
  | 0, hn => by obtain rfl : k = 0 := by omega
                rfl
  | n + 1, hn => by
    by_cases e : k = n + 1
    · subst e; rfl
    · have := itP_stop h n (by omega)
      rw [itP, this]
      exact h
theorem itP_mono {zl : List TLink} {n1 : Nat} {kd s : Int} (h : VS s) {j : Int} (a : 0 ≤ j) (b : j ≤ 15) (hj : hasB s j = true) : ∀ k, hasB (itP zl n1 kd s k) j = true
  | 0 => hj
  | k + 1 => by rw [itP, pS_has (itP_VS h k) a b, itP_mono h a b hj k]; rfl
/-- From r itself, one step more: as from r's neighbours, and r. -/
theorem itP_from {zl : List TLink} {n1 : Nat} {kd r : Int} (h1 : 0 ≤ r) (h2 : r ≤ 15) : ∀ k, itP zl n1 kd (addV 0 r) (k + 1) = addV (itP zl n1 kd (nbS zl n1 r kd) k) r
  | 0 => by
    obtain ⟨hv, hh⟩ := addV_any VS_zero r
    obtain ⟨hv2, hh2⟩ := addV_any (nbS_VS zl n1 r kd) r
    refine set_ext (pS_VS hv) hv2 fun j a b => ?_
    show hasB (pS zl n1 kd (addV 0 r)) j = _
    rw [pS_has hv a b, uS_has _ _ _ _ a b]
    show _ = hasB (addV (nbS zl n1 r kd) r) j
    rw [hh2 j a b, hh j a b, hasB_zero, Bool.or_false]
    congr 1
    rw [Bool.eq_iff_iff, List.any_eq_true]
    constructor
    · rintro ⟨x, hx, hb⟩
      obtain ⟨x0, x1, x2⟩ := elN_in hx
      rw [hh x x0 x1, hasB_zero, Bool.or_false, beq_iff_eq] at x2
      rw [x2]; exact hb
    · intro hb
      exact ⟨r, (mem_elN h1 h2).2 (by rw [hh r h1 h2]; simp), hb⟩
  | k + 1 => by
    have ih := itP_from (zl := zl) (n1 := n1) (kd := kd) h1 h2 k
    have hX := itP_VS (nbS_VS zl n1 r kd) (zl := zl) (n1 := n1) (kd := kd) k
    obtain ⟨hv, hh⟩ := addV_any hX r
    have hX1 := itP_VS (nbS_VS zl n1 r kd) (zl := zl) (n1 := n1) (kd := kd) (k + 1)
    obtain ⟨hv2, hh2⟩ := addV_any hX1 r
    rw [itP, ih]
    refine set_ext (pS_VS hv) hv2 fun j a b => ?_
    rw [pS_has hv a b, hh2 j a b, hh j a b, itP, pS_has hX a b, Bool.or_assoc]
    congr 1
    rw [uS_has _ _ _ _ a b, uS_has _ _ _ _ a b, Bool.eq_iff_iff, Bool.or_eq_true, Bool.or_eq_true, List.any_eq_true, List.any_eq_true]
    constructor
    · rintro (h | ⟨x, hx, hb⟩)
      · exact .inl h
      · obtain ⟨x0, x1, x2⟩ := elN_in hx
        rw [hh x x0 x1, Bool.or_eq_true, beq_iff_eq] at x2
        rcases x2 with e | e
        · subst e; exact .inl (itP_mono (nbS_VS _ _ _ _) a b hb k)
        · exact .inr ⟨x, (mem_elN x0 x1).2 e, hb⟩
    · rintro (h | ⟨x, hx, hb⟩)
      · exact .inl h
      · obtain ⟨x0, x1, x2⟩ := elN_in hx
        exact .inr ⟨x, (mem_elN x0 x1).2 (by rw [hh x x0 x1, x2, Bool.or_true]), hb⟩
end Go.Proofs.Ytjlglppknemffaa
