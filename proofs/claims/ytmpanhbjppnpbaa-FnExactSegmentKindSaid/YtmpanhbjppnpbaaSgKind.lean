
/- Parts of the program's SegmentKind. -/
import Derived.Test.YtmpanhbjppnpbaaRealm
import Derived.Test.YtmpanhbjppnpbaaSAS
import Derived.Test.YtmpanhbjppnpbaaSeen
import Derived.Test.YtmpanhbjppnpbaaKindOf
import Derived.Test.YtmpanhbjppnpbaaSegL
import Derived.Test.YtmpanhbjppnpbaaAppR
namespace Go.Proofs.Ytmpanhbjppnpbaa
open Go.ChangeShapes Go.WideShapes Go.ChangeAt Go.RowKit
set_option linter.unusedVariables false
def coreB (zs : List TAS) (n0 : Nat) (r : Int) : Bool := isAsB n0 r && (zs.getD r.toNat default).core
def sameI (x : Int) (zs : List Int) (j : Nat) : Bool := zs.getD j 0 == x
set_option maxRecDepth 100000 in
set_option maxHeartbeats 4000000 in
theorem implAreAll (x : Int) (a : Option Addr) (n c B : Nat) (zs : List Int) (w : World) (h : Has .i64 w B a n zs) (hn : n ≤ 4194304) :
    Calls Try.prog 48 #[.int .i64 x, .slice a n c] w fun e w' => e = .returned (.bool (allN (sameI x zs) n)) ∧ w = w' := by
  go_enter Try.func48, Try.ntmps48
  go_wp2_with fail
  go_loop [4, 9] (fun r i => r = .bool false ∧ ∃ k : Nat, k ≤ n ∧ i = .int .i64 k ∧ Hid (allN (sameI x zs) k = true)) (fun _ i => n - (intOf i).toNat)
  case atStart => exact ⟨rfl, 0, Nat.zero_le _, rfl, rfl⟩
  case round =>
    obtain ⟨rfl, k, hk, rfl, hS⟩ := hrel
    by_cases hlt : k < n
    · obtain ⟨b, off, z, rfl, hb, hz, c0⟩ := h.at_ hlt
      cases he : (z == x)
      · have HE := Lib.hid (allN_stop (p := sameI x zs) (k := k) (n := n) (by unfold sameI; rw [← hz.out]; exact he) hlt)
        have he2 : (z != x) = true := by simp only [bne, he]; rfl
        clear he
        go_wp2_with fail
        go_ret
        exact ⟨retB HE.out.symm, rfl⟩
      · have HE := Lib.hid (allN_go hS.out (p := sameI x zs) (k := k) (by unfold sameI; rw [← hz.out]; exact he))
        have he2 : (z != x) = false := by simp only [bne, he]; rfl
        clear he
        go_wp2_with fail
        go_round
        case rel => exact ⟨rfl, k + 1, by omega, by go_num, HE.out⟩
        case measure => simp [intOf]; omega
    · obtain rfl : k = n := by omega
      go_wp2_with fail
      go_ret
      exact ⟨retB hS.out.symm, rfl⟩

set_option maxRecDepth 100000 in
set_option maxHeartbeats 4000000 in
theorem implIsCore (a0 a1 : Option Addr) (n0 c0 n1 c1 B : Nat) (zs : List TAS) (r : Int) (w : World) (h : HasAS w B a0 n0 zs) (hB : B ≤ w.heap.size) (hn : n0 ≤ 1048576) :
    Calls Try.prog 44 #[.agg #[.slice a0 n0 c0, .slice a1 n1 c1], .int .i64 r] w fun e w' => e = .returned (.bool (coreB zs n0 r)) ∧ Mk0 w w' := by
  have M0 := Mk.alloc w (Obj.cells #[Value.slice a0 n0 c0, Value.slice a1 n1 c1] 35)
  have k0 : (w.alloc (Obj.cells #[Value.slice a0 n0 c0, Value.slice a1 n1 c1] 35)).cell? ⟨w.heap.size, 0, none⟩ = some (.slice a0 n0 c0) := by simp [go_sem]
  cases hr : isAsB n0 r
  · have HR := Lib.hid (show coreB zs n0 r = false by unfold coreB; rw [hr]; rfl)
    have HI := Lib.hid hr
    clear hr
    go_enter Try.func44, Try.ntmps44
    go_wp2_with fail
    refine (implIsAS a0 a1 n0 c0 n1 c1 r _ hn).mono ?_
    rintro e w2 ⟨he, m2⟩
    rw [HI.out] at he
    subst he
    go_wp2_with fail
    go_ret
    exact ⟨retB HR.out.symm, M0.trans m2⟩
  · have hq := of_decide_eq_true (show decide (0 ≤ r ∧ r < (n0 : Int)) = true from hr)
    obtain ⟨q, hqr⟩ : ∃ q : Nat, (q : Int) = r := ⟨r.toNat, by omega⟩
    subst hqr
    have hqn : q < n0 := by omega
    obtain ⟨b, o, y, rfl, hb, hy, d0, d1, d2⟩ := HasAS.at _ _ _ _ _ _ (h.mk M0 hB (.inr (Nat.le_refl _))) hqn
    have HR := Lib.hid (show coreB zs n0 (q : Int) = y.core by unfold coreB; rw [hr, hy.out]; simp)
    have HI := Lib.hid hr
    have i1 : (0 : Int) ≤ (q : Int) := by omega
    have i2 : (q : Int) < (n0 : Int) := by omega
    clear hr hq d0 d2
    go_enter Try.func44, Try.ntmps44
    go_wp2_with fail
    refine (implIsAS _ a1 n0 c0 n1 c1 (q : Int) _ hn).mono ?_
    rintro e w2 ⟨he, m2⟩
    rw [HI.out] at he
    subst he
    replace k0 := m2.cellAt k0
    replace d1 := m2.cellAt d1
    go_wp2_with fail
    go_ret
    exact ⟨retB HR.out.symm, M0.trans m2⟩

def OutRC (w : World) (R : List Int) (e : Ending) (w' : World) : Prop :=
  ∃ A N c, e = .returned (.slice A N c) ∧ N ≤ c ∧ Own .i64 w' w.heap.size A N R ∧ Mk0 w w'
theorem OutRC.of {w w' : World} {R : List Int} {v : Value} {n : Nat} {e : TypeId} (h : w'.ownsRow w.heap.size e 1 v n (R.map (.int .i64))) (hb : Mk0 w w') : OutRC w R (.returned v) w' := by
  obtain ⟨A, c, rfl, hc, hn⟩ := ownsRow_sliceR2 h
  exact ⟨A, n, c, rfl, hn, ownsRow_own h, hb⟩
def egK (zl : List TLink) (n1 : Nat) (x : THop) : List Int := if x.eg = 0 then [] else [kindOf zl x.nd x.eg n1]
def egUp (zl : List TLink) (n1 : Nat) (zs : List THop) : Nat → List Int
  | 0 => []
  | k + 1 => egUp zl n1 zs k ++ egK zl n1 (zs.getD k default)
theorem egUp_len (zl : List TLink) (n1 : Nat) (zs : List THop) : ∀ k, (egUp zl n1 zs k).length ≤ k
  | 0 => by simp [egUp]
  | k + 1 => by
    have h := egUp_len zl n1 zs k
    have h1 : (egK zl n1 (zs.getD k default)).length ≤ 1 := by unfold egK; split <;> simp
    rw [egUp, List.length_append]
    omega
set_option maxRecDepth 100000 in
set_option maxHeartbeats 4000000 in
theorem implEgKinds (a0 a1 : Option Addr) (n0 c0 n1 c1 B : Nat) (zl : List TLink) (x0 x1 : Int) (a : Option Addr) (n c B' : Nat) (zs : List THop) (w : World) (hl : HasLink w B a1 n1 zl) (hB : B ≤ w.heap.size) (hn1 : n1 ≤ 1048576) (h : HasHop w B' a n zs) (hB' : B' ≤ w.heap.size) (hn : n ≤ 1048576) :
    Calls Try.prog 47 #[.agg #[.slice a0 n0 c0, .slice a1 n1 c1], .agg #[.int .i64 x0, .int .i64 x1, .slice a n c]] w (OutRC w (egUp zl n1 zs n)) := by
  obtain ⟨i0, hi, hz0, hz1, hz2⟩ := info_parts infoI64
  have hby : i0.bytes ≤ 8 := by rw [hz2]; decide
  have M0 := (Mk.alloc w (Obj.cells #[Value.slice a0 n0 c0, Value.slice a1 n1 c1] 35)).new (Obj.cells #[Value.int .i64 x0, Value.int .i64 x1, Value.slice a n c] 39)
  have hs2 : ((w.alloc (Obj.cells #[Value.slice a0 n0 c0, Value.slice a1 n1 c1] 35)).alloc (Obj.cells #[Value.int .i64 x0, Value.int .i64 x1, Value.slice a n c] 39)).heap.size = w.heap.size + 1 + 1 := by rw [World.size_alloc, World.size_alloc]
  have k0 : ((w.alloc (Obj.cells #[Value.slice a0 n0 c0, Value.slice a1 n1 c1] 35)).alloc (Obj.cells #[Value.int .i64 x0, Value.int .i64 x1, Value.slice a n c] 39)).cell? ⟨w.heap.size, 0, none⟩ = some (.slice a0 n0 c0) := by simp [go_sem]
  have k1 : ((w.alloc (Obj.cells #[Value.slice a0 n0 c0, Value.slice a1 n1 c1] 35)).alloc (Obj.cells #[Value.int .i64 x0, Value.int .i64 x1, Value.slice a n c] 39)).cell? ⟨w.heap.size, 1, none⟩ = some (.slice a1 n1 c1) := by simp [go_sem]
  have hl0 := own_lit ((w.alloc (Obj.cells #[Value.slice a0 n0 c0, Value.slice a1 n1 c1] 35)).alloc (Obj.cells #[Value.int .i64 x0, Value.int .i64 x1, Value.slice a n c] 39)) 3 [] (by simp)
  have ML := Mk.alloc ((w.alloc (Obj.cells #[Value.slice a0 n0 c0, Value.slice a1 n1 c1] 35)).alloc (Obj.cells #[Value.int .i64 x0, Value.int .i64 x1, Value.slice a n c] 39)) (.cells #[] 3)
  rw [hs2] at hl0
  go_enter Try.func47, Try.ntmps47
  go_wp2_with fail
  go_loopw [5, 12] (fun v i wr => ∃ k : Nat, k ≤ n ∧ i = .int .i64 k ∧ wr.ownsRow (w.heap.size + 1 + 1) 3 1 v (egUp zl n1 zs k).length ((egUp zl n1 zs k).map (.int .i64)) ∧ Mk0 ((w.alloc (Obj.cells #[Value.slice a0 n0 c0, Value.slice a1 n1 c1] 35)).alloc (Obj.cells #[Value.int .i64 x0, Value.int .i64 x1, Value.slice a n c] 39)) wr) (fun _ i _ => n - (intOf i).toNat)
  case atStart => exact ⟨0, Nat.zero_le _, rfl, hl0, ML⟩
  case round =>
    clear hl0 ML
    obtain ⟨k, hk, rfl, hown, hM⟩ := hrel
    have M1 := M0.trans hM
    replace k0 := hM.cellAt k0
    replace k1 := hM.cellAt k1
    have hlow := hM.size
    rw [hs2] at hlow
    have hul := egUp_len zl n1 zs k
    by_cases hlt : k < n
    · obtain ⟨b, off, x, rfl, hb, hx, d0, d1, d2, d3, d4⟩ := HasHop.at _ _ _ _ _ _ (h.mk M1 hB' (.inr (Nat.le_refl _))) hlt
      have hbr := World.block_lt_of_cell? _ _ d0
      have hbq := World.block_lt_of_cell? _ _ k0
      simp only at hbr hbq
      have i1 : (0 : Int) ≤ (k : Int) := by omega
      have i2 : (k : Int) < (n : Int) := by omega
      have MB := Mk.alloc wr (Obj.cells #[Value.int .i64 x.nd, Value.int .i64 x.ing, Value.int .i64 x.eg, Value.int .i64 x.exp, Value.int .i64 x.mac] 85)
      cases e : (x.eg == 0)
      · have HE := Lib.hid (show egUp zl n1 zs (k + 1) = egUp zl n1 zs k ++ [kindOf zl x.nd x.eg n1] by rw [egUp, ← hx.out]; unfold egK; rw [if_neg (by simpa using e)])
        have e' : (x.eg != 0) = true := by simp only [bne, e]; rfl
        clear e
        obtain ⟨L, hLq⟩ : ∃ L, Hid (L = egUp zl n1 zs k) := ⟨_, Lib.hid rfl⟩
        rw [← hLq.out] at hown hul HE
        obtain ⟨V, hV⟩ : ∃ V, Hid (V = kindOf zl x.nd x.eg n1) := ⟨_, Lib.hid rfl⟩
        rw [← hV.out] at HE
        go_wp2_with fail
        refine (implKind a0 a1 n0 c0 n1 c1 B zl x.nd x.eg _ (hl.mk (M1.trans MB) hB (.inr (Nat.le_refl _))) (Nat.le_trans hB (M1.trans MB).size) hn1).mono ?_
        rintro e w2 ⟨rfl, m2⟩
        rw [← hV.out]
        have hn1' := has_new .i64 w2 3 V
        have MA := Mk.alloc w2 (.cells #[.int .i64 V] 3)
        have ho' := own_keptR (own_keptR (own_keptR hown MB) m2) MA
        have M2 := MB.trans m2
        have hlo' := Nat.le_trans hlow (Nat.le_trans M2.size MA.size)
        go_wp2_with (at_builtin; refine wpList_app rfl (.tmp 19) (.tmp 26) 52 rfl _ 3 i0 Try.underlying52 hi hz0 hz1 hby _ L L.length rfl ho' _ 1 1 [V] rfl (fun h => by cases h) hn1' (by omega) hlo' ?_; intro v3 w3 ho3 hg3 _)
        have M3 := (hM.trans (M2.trans MA)).appR hg3 (fun g hg => by have := (ho'.lt g hg).1; omega)
        go_wp2_with fail
        go_roundw
        case rel => exact ⟨k + 1, by omega, by go_num, by rw [HE.out, List.length_append]; exact ho3, M3⟩
        case measure => simp [intOf]; omega
      · have HE := Lib.hid (show egUp zl n1 zs (k + 1) = egUp zl n1 zs k by rw [egUp, ← hx.out]; unfold egK; rw [if_pos (by simpa using e), List.append_nil])
        have e' : (x.eg != 0) = false := by simp only [bne, e]; rfl
        clear e
        go_wp2_with fail
        go_roundw
        case rel => exact ⟨k + 1, by omega, by go_num, by rw [HE.out]; exact own_keptR hown MB, hM.trans MB⟩
        case measure => simp [intOf]; omega
    · obtain rfl : k = n := by omega
      go_wp2_with fail
      go_ret
      exact OutRC.of (own_lowR hown (by omega)) M1

end Go.Proofs.Ytmpanhbjppnpbaa
