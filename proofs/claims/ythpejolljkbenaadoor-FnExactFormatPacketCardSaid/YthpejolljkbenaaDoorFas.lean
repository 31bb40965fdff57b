
/- FormatAS and FormatInterface of both sides. -/
import Derived.Test.YthpejolljkbenaaDoorFmt
import Derived.Test.YthpejolljkbenaaDoorLaid
import Derived.Test.YthpejolljkbenaaDoorRealm
import Derived.Test.YthpejolljkbenaaDoorWk
import Derived.Lib.ItoaLen
namespace Go.Proofs.YthpejolljkbenaaDoor
open Go Go.ChangeShapes Go.WideShapes Go.ChangeAt Go.RowKit
set_option linter.unusedVariables false
/-- The numeral of n. -/
def tI (n : Int) : ByteArray := ⟨(Lib.itoa n).toArray⟩
def asT (zs : List TAS) (n0 : Nat) (r : Int) : ByteArray := if isAsB n0 r = true then tI (zs.getD r.toNat default).isd ++ ⟨#[45]⟩ ++ tI r else ⟨#[63]⟩
def ifT (zs : List TAS) (n0 : Nat) (r q : Int) : ByteArray := asT zs n0 r ++ ⟨#[35]⟩ ++ tI q
theorem tI_size {n : Int} (h0 : -9223372036854775808 ≤ n) (h1 : n ≤ 9223372036854775807) : (tI n).size ≤ 21 := Lib.itoa_length_le n h0 h1
theorem size_app {a b : ByteArray} {p q : Nat} (ha : a.size ≤ p) (hb : b.size ≤ q) : (a ++ b).size ≤ p + q := by rw [ByteArray.size_append]; omega
theorem add_ok (a b : ByteArray) {p q : Nat} (ha : a.size ≤ p) (hb : b.size ≤ q) (h : p + q ≤ 1000000000) (w : World) : (Op.stringOp .add a b).run Tryd.prog w = .ok (.string (a ++ b)) w := run_string_add_sum w a b (by omega)
theorem one1 (c : UInt8) : (⟨#[c]⟩ : ByteArray).size ≤ 1 := Nat.le_refl 1
theorem retT {a b : ByteArray} (h : a = b) : Ending.returned (.string a) = .returned (.string b) := by rw [h]
theorem tab_mk {w w' : World} (h : Lib.TabIs Tryd.prog w "internal/strconv.uint64pow10" .u64 Lib.pow10Tab) (m : Mk0 w w') : Lib.TabIs Tryd.prog w' "internal/strconv.uint64pow10" .u64 Lib.pow10Tab := tab_below h m.below0
theorem specFI (n : Int) (h0 : -9223372036854775808 ≤ n) (h1 : n ≤ 9223372036854775807) (w : World) :
    Calls Tryd.prog 44 #[.int .i64 n] w fun e w' => e = .returned (.string (tI n)) ∧ Mk0 w w' :=
  (specFormatInt n h0 h1 w).mono fun e w' ⟨p, q⟩ => ⟨p, Mk.of_below q⟩
theorem implFI (n : Int) (h0 : -9223372036854775808 ≤ n) (h1 : n ≤ 9223372036854775807) (w : World) (htab : Lib.TabIs Tryd.prog w "internal/strconv.uint64pow10" .u64 Lib.pow10Tab) :
    Calls Tryd.prog 53 #[.int .i64 n] w fun e w' => e = .returned (.string (tI n)) ∧ Mk0 w w' :=
  (implFormatInt n h0 h1 w htab).mono fun e w' ⟨p, q⟩ => ⟨p, Mk.of_below q⟩
theorem as_in {zs : List TAS} {n q : Nat} (hl : zs.length = n) (hq : q < n) (hz : ∀ y ∈ zs, TAS.fits y) {y : TAS} (hy : y = zs.getD q default) : -9223372036854775808 ≤ y.isd ∧ y.isd ≤ 9223372036854775807 := by
  subst hy
  have : zs.getD q default ∈ zs := by
    rw [List.getD_eq_getElem?_getD, List.getElem?_eq_getElem (by omega)]
    exact List.getElem_mem _
  exact i64_of (hz _ this).1
theorem asT_size {zs : List TAS} {n0 : Nat} {r : Int} (hl : zs.length = n0) (hz : ∀ y ∈ zs, TAS.fits y) (h0 : -9223372036854775808 ≤ r) (h1 : r ≤ 9223372036854775807) : (asT zs n0 r).size ≤ 43 := by
  unfold asT
  split
  · rename_i hr
    have hq := of_decide_eq_true (show decide (0 ≤ r ∧ r < (n0 : Int)) = true from hr)
    obtain ⟨q0, q1⟩ := as_in (q := r.toNat) hl (by omega) hz rfl
    exact size_app (p := 22) (size_app (p := 21) (tI_size q0 q1) (one1 45)) (tI_size h0 h1)
  · exact (by decide : (1 : Nat) ≤ 43)
theorem ifT_size {zs : List TAS} {n0 : Nat} {r q : Int} (hl : zs.length = n0) (hz : ∀ y ∈ zs, TAS.fits y) (h0 : -9223372036854775808 ≤ r) (h1 : r ≤ 9223372036854775807) (k0 : -9223372036854775808 ≤ q) (k1 : q ≤ 9223372036854775807) : (ifT zs n0 r q).size ≤ 65 :=
  size_app (p := 44) (size_app (p := 43) (asT_size hl hz h0 h1) (one1 35)) (tI_size k0 k1)
set_option maxRecDepth 100000 in
set_option maxHeartbeats 4000000 in
theorem specFAS (a0 a1 : Option Addr) (n0 c0 n1 c1 B : Nat) (zs : List TAS) (r : Int) (w : World) (h : HasAS w B a0 n0 zs) (hB : B ≤ w.heap.size) (hn0 : n0 ≤ 1048576) (hz : ∀ y ∈ zs, TAS.fits y) (h0_r : -9223372036854775808 ≤ r) (h1_r : r ≤ 9223372036854775807) :
    Calls Tryd.prog 45 #[.agg #[.slice a0 n0 c0, .slice a1 n1 c1], .int .i64 r] w fun e w' => e = .returned (.string (asT zs n0 r)) ∧ Mk0 w w' := by
  have M0 := Mk.alloc w (Obj.cells #[Value.slice a0 n0 c0, Value.slice a1 n1 c1] 31)
  have k0 : (w.alloc (Obj.cells #[Value.slice a0 n0 c0, Value.slice a1 n1 c1] 31)).cell? ⟨w.heap.size, 0, none⟩ = some (.slice a0 n0 c0) := by simp [go_sem]
  have k1 : (w.alloc (Obj.cells #[Value.slice a0 n0 c0, Value.slice a1 n1 c1] 31)).cell? ⟨w.heap.size, 1, none⟩ = some (.slice a1 n1 c1) := by simp [go_sem]
  cases hr : isAsB n0 r
  · have HR := Lib.hid (show asT zs n0 r = ⟨#[63]⟩ by unfold asT; rw [hr]; rfl)
    go_enter Tryd.func45, Tryd.ntmps45
    go_wp2_with fail
    refine (specIsAS a0 a1 n0 c0 n1 c1 r _ hn0).mono ?_
    rintro e w2 ⟨he, m2⟩
    rw [hr] at he
    subst he
    go_wp2_with fail
    go_ret
    exact ⟨retT HR.out.symm, M0.trans m2⟩
  · have hq := of_decide_eq_true (show decide (0 ≤ r ∧ r < (n0 : Int)) = true from hr)
    obtain ⟨q, rfl⟩ : ∃ q : Nat, r = (q : Int) := ⟨r.toNat, by omega⟩
    have hqn : q < n0 := by omega
    obtain ⟨b, off, x, rfl, hb, hx, d0, d1, d2⟩ := HasAS.at _ _ _ _ _ _ h hqn
    have hbr := World.block_lt_of_cell? _ _ d0
    simp only at hbr
    obtain ⟨b0, b1⟩ := as_in h.1 hqn hz hx.out
    have HR := Lib.hid (show asT zs n0 (q : Int) = tI x.isd ++ ⟨#[45]⟩ ++ tI (q : Int) by unfold asT; rw [hr, if_pos rfl, hx.out]; rfl)
    have HI := Lib.hid hr
    clear hr hz
    have ZX := tI_size b0 b1
    have ZR := tI_size h0_r h1_r
    have ad0 := add_ok (tI x.isd) (⟨#[45]⟩) (p := 21) (q := 1) (ZX) (one1 45) (by decide)
    have ad1 := add_ok (tI x.isd ++ ⟨#[45]⟩) (tI (q : Int)) (p := 22) (q := 21) (size_app (p := 21) (q := 1) (ZX) (one1 45)) (ZR) (by decide)
    have d0' := M0.cellAt d0
    have i1 : (0 : Int) ≤ (q : Int) := by omega
    have i2 : (q : Int) < (n0 : Int) := by omega
    go_enter Tryd.func45, Tryd.ntmps45
    go_wp2_with fail
    refine (specIsAS (some ⟨b, off, none⟩) a1 n0 c0 n1 c1 (q : Int) _ hn0).mono ?_
    rintro e w2 ⟨he, m2⟩
    rw [HI.out] at he
    subst he
    replace k0 := m2.cellAt k0
    replace d0' := m2.cellAt d0'
    have M2 := M0.trans m2
    go_wp2_with fail
    refine (specFI x.isd b0 b1 _).mono ?_
    rintro e w3 ⟨rfl, m3⟩
    have M3 := M2.trans m3
    go_wp2_with fail
    refine (specFI (q : Int) h0_r h1_r _).mono ?_
    rintro e w4 ⟨rfl, m4⟩
    go_wp2_with fail
    go_ret
    exact ⟨retT HR.out.symm, M3.trans m4⟩

set_option maxRecDepth 100000 in
set_option maxHeartbeats 4000000 in
theorem specFIf (a0 a1 : Option Addr) (n0 c0 n1 c1 B : Nat) (zs : List TAS) (r q : Int) (w : World) (h : HasAS w B a0 n0 zs) (hB : B ≤ w.heap.size) (hn0 : n0 ≤ 1048576) (hz : ∀ y ∈ zs, TAS.fits y) (h0_r : -9223372036854775808 ≤ r) (h1_r : r ≤ 9223372036854775807) (h0_q : -9223372036854775808 ≤ q) (h1_q : q ≤ 9223372036854775807) :
    Calls Tryd.prog 56 #[.agg #[.slice a0 n0 c0, .slice a1 n1 c1], .int .i64 r, .int .i64 q] w fun e w' => e = .returned (.string (ifT zs n0 r q)) ∧ Mk0 w w' := by
  have M0 := Mk.alloc w (Obj.cells #[Value.slice a0 n0 c0, Value.slice a1 n1 c1] 31)
  have k0 : (w.alloc (Obj.cells #[Value.slice a0 n0 c0, Value.slice a1 n1 c1] 31)).cell? ⟨w.heap.size, 0, none⟩ = some (.slice a0 n0 c0) := by simp [go_sem]
  have k1 : (w.alloc (Obj.cells #[Value.slice a0 n0 c0, Value.slice a1 n1 c1] 31)).cell? ⟨w.heap.size, 1, none⟩ = some (.slice a1 n1 c1) := by simp [go_sem]
  have ad0 := add_ok (asT zs n0 r) (⟨#[35]⟩) (p := 43) (q := 1) (asT_size h.1 hz h0_r h1_r) (one1 35) (by decide)
  have ad1 := add_ok (asT zs n0 r ++ ⟨#[35]⟩) (tI q) (p := 44) (q := 21) (size_app (p := 43) (q := 1) (asT_size h.1 hz h0_r h1_r) (one1 35)) (tI_size h0_q h1_q) (by decide)
  have HZ := Lib.hid hz
  clear hz
  go_enter Tryd.func56, Tryd.ntmps56
  go_wp2_with fail
  refine (specFAS a0 a1 n0 c0 n1 c1 B zs r _ (h.mk M0 hB (.inr (Nat.le_refl _))) (Nat.le_trans hB M0.size) hn0 HZ.out h0_r h1_r).mono ?_
  rintro e w2 ⟨rfl, m2⟩
  have M2 := M0.trans m2
  go_wp2_with fail
  refine (specFI q h0_q h1_q _).mono ?_
  rintro e w3 ⟨rfl, m3⟩
  go_wp2_with fail
  go_ret
  exact ⟨rfl, M2.trans m3⟩

set_option maxRecDepth 100000 in
set_option maxHeartbeats 4000000 in
theorem implFAS (a0 a1 : Option Addr) (n0 c0 n1 c1 B : Nat) (zs : List TAS) (r : Int) (w : World) (h : HasAS w B a0 n0 zs) (hB : B ≤ w.heap.size) (hn0 : n0 ≤ 1048576) (hz : ∀ y ∈ zs, TAS.fits y) (h0_r : -9223372036854775808 ≤ r) (h1_r : r ≤ 9223372036854775807) (htab : Lib.TabIs Tryd.prog w "internal/strconv.uint64pow10" .u64 Lib.pow10Tab) :
    Calls Tryd.prog 75 #[.agg #[.slice a0 n0 c0, .slice a1 n1 c1], .int .i64 r] w fun e w' => e = .returned (.string (asT zs n0 r)) ∧ Mk0 w w' := by
  have M0 := Mk.alloc w (Obj.cells #[Value.slice a0 n0 c0, Value.slice a1 n1 c1] 31)
  have k0 : (w.alloc (Obj.cells #[Value.slice a0 n0 c0, Value.slice a1 n1 c1] 31)).cell? ⟨w.heap.size, 0, none⟩ = some (.slice a0 n0 c0) := by simp [go_sem]
  have k1 : (w.alloc (Obj.cells #[Value.slice a0 n0 c0, Value.slice a1 n1 c1] 31)).cell? ⟨w.heap.size, 1, none⟩ = some (.slice a1 n1 c1) := by simp [go_sem]
  cases hr : isAsB n0 r
  · have HR := Lib.hid (show asT zs n0 r = ⟨#[63]⟩ by unfold asT; rw [hr]; rfl)
    go_enter Tryd.func75, Tryd.ntmps75
    go_wp2_with fail
    refine (implIsAS a0 a1 n0 c0 n1 c1 r _ hn0).mono ?_
    rintro e w2 ⟨he, m2⟩
    rw [hr] at he
    subst he
    go_wp2_with fail
    go_ret
    exact ⟨retT HR.out.symm, M0.trans m2⟩
  · have hq := of_decide_eq_true (show decide (0 ≤ r ∧ r < (n0 : Int)) = true from hr)
    obtain ⟨q, rfl⟩ : ∃ q : Nat, r = (q : Int) := ⟨r.toNat, by omega⟩
    have hqn : q < n0 := by omega
    obtain ⟨b, off, x, rfl, hb, hx, d0, d1, d2⟩ := HasAS.at _ _ _ _ _ _ h hqn
    have hbr := World.block_lt_of_cell? _ _ d0
    simp only at hbr
    obtain ⟨b0, b1⟩ := as_in h.1 hqn hz hx.out
    have HR := Lib.hid (show asT zs n0 (q : Int) = tI x.isd ++ ⟨#[45]⟩ ++ tI (q : Int) by unfold asT; rw [hr, if_pos rfl, hx.out]; rfl)
    have HI := Lib.hid hr
    clear hr hz
    have ZX := tI_size b0 b1
    have ZR := tI_size h0_r h1_r
    have ad0 := add_ok (tI x.isd) (⟨#[45]⟩) (p := 21) (q := 1) (ZX) (one1 45) (by decide)
    have ad1 := add_ok (tI x.isd ++ ⟨#[45]⟩) (tI (q : Int)) (p := 22) (q := 21) (size_app (p := 21) (q := 1) (ZX) (one1 45)) (ZR) (by decide)
    have d0' := M0.cellAt d0
    have i1 : (0 : Int) ≤ (q : Int) := by omega
    have i2 : (q : Int) < (n0 : Int) := by omega
    go_enter Tryd.func75, Tryd.ntmps75
    go_wp2_with fail
    refine (implIsAS (some ⟨b, off, none⟩) a1 n0 c0 n1 c1 (q : Int) _ hn0).mono ?_
    rintro e w2 ⟨he, m2⟩
    rw [HI.out] at he
    subst he
    replace k0 := m2.cellAt k0
    replace d0' := m2.cellAt d0'
    have M2 := M0.trans m2
    go_wp2_with fail
    refine (implFI x.isd b0 b1 _ (tab_mk htab M2)).mono ?_
    rintro e w3 ⟨rfl, m3⟩
    have M3 := M2.trans m3
    go_wp2_with fail
    refine (implFI (q : Int) h0_r h1_r _ (tab_mk htab M3)).mono ?_
    rintro e w4 ⟨rfl, m4⟩
    go_wp2_with fail
    go_ret
    exact ⟨retT HR.out.symm, M3.trans m4⟩

set_option maxRecDepth 100000 in
set_option maxHeartbeats 4000000 in
theorem implFIf (a0 a1 : Option Addr) (n0 c0 n1 c1 B : Nat) (zs : List TAS) (r q : Int) (w : World) (h : HasAS w B a0 n0 zs) (hB : B ≤ w.heap.size) (hn0 : n0 ≤ 1048576) (hz : ∀ y ∈ zs, TAS.fits y) (h0_r : -9223372036854775808 ≤ r) (h1_r : r ≤ 9223372036854775807) (h0_q : -9223372036854775808 ≤ q) (h1_q : q ≤ 9223372036854775807) (htab : Lib.TabIs Tryd.prog w "internal/strconv.uint64pow10" .u64 Lib.pow10Tab) :
    Calls Tryd.prog 60 #[.agg #[.slice a0 n0 c0, .slice a1 n1 c1], .int .i64 r, .int .i64 q] w fun e w' => e = .returned (.string (ifT zs n0 r q)) ∧ Mk0 w w' := by
  have M0 := Mk.alloc w (Obj.cells #[Value.slice a0 n0 c0, Value.slice a1 n1 c1] 31)
  have k0 : (w.alloc (Obj.cells #[Value.slice a0 n0 c0, Value.slice a1 n1 c1] 31)).cell? ⟨w.heap.size, 0, none⟩ = some (.slice a0 n0 c0) := by simp [go_sem]
  have k1 : (w.alloc (Obj.cells #[Value.slice a0 n0 c0, Value.slice a1 n1 c1] 31)).cell? ⟨w.heap.size, 1, none⟩ = some (.slice a1 n1 c1) := by simp [go_sem]
  have ad0 := add_ok (asT zs n0 r) (⟨#[35]⟩) (p := 43) (q := 1) (asT_size h.1 hz h0_r h1_r) (one1 35) (by decide)
  have ad1 := add_ok (asT zs n0 r ++ ⟨#[35]⟩) (tI q) (p := 44) (q := 21) (size_app (p := 43) (q := 1) (asT_size h.1 hz h0_r h1_r) (one1 35)) (tI_size h0_q h1_q) (by decide)
  have HZ := Lib.hid hz
  clear hz
  go_enter Tryd.func60, Tryd.ntmps60
  go_wp2_with fail
  refine (implFAS a0 a1 n0 c0 n1 c1 B zs r _ (h.mk M0 hB (.inr (Nat.le_refl _))) (Nat.le_trans hB M0.size) hn0 HZ.out h0_r h1_r (tab_mk htab M0)).mono ?_
  rintro e w2 ⟨rfl, m2⟩
  have M2 := M0.trans m2
  go_wp2_with fail
  refine (implFI q h0_q h1_q _ (tab_mk htab M2)).mono ?_
  rintro e w3 ⟨rfl, m3⟩
  go_wp2_with fail
  go_ret
  exact ⟨rfl, M2.trans m3⟩

end Go.Proofs.YthpejolljkbenaaDoor
