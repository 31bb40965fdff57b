
/- Parts of the program's SegmentKind. -/
import Derived.Test.YtdhdkhnefnbdgaaGreatDoorRealm
import Derived.Test.YtdhdkhnefnbdgaaGreatDoorSAS
import Derived.Test.YtdhdkhnefnbdgaaGreatDoorSeen
import Derived.Test.YtdhdkhnefnbdgaaGreatDoorKindOf
import Derived.Test.YtdhdkhnefnbdgaaGreatDoorBetaAt
import Derived.Test.YtdhdkhnefnbdgaaGreatDoorAppR
import Derived.Test.YtdhdkhnefnbdgaaGreatDoorWF
namespace Go.Proofs.YtdhdkhnefnbdgaaGreatDoor
open Go.ChangeShapes Go.WideShapes Go.ChangeAt Go.RowKit
set_option linter.unusedVariables false
def coreB (zs : List TAS) (n0 : Nat) (r : Int) : Bool := isAsB n0 r && (zs.getD r.toNat default).core
def sameI (x : Int) (zs : List Int) (j : Nat) : Bool := zs.getD j 0 == x
set_option maxRecDepth 100000 in
set_option maxHeartbeats 4000000 in
theorem implAreAll (x : Int) (a : Option Addr) (n c B : Nat) (zs : List Int) (w : World) (h : Has .i64 w B a n zs) (hn : n ≤ 4194304) :
    Calls Tryz.prog 87 #[.int .i64 x, .slice a n c] w fun e w' => e = .returned (.bool (allN (sameI x zs) n)) ∧ w = w' := by
  go_enter Tryz.func87, Tryz.ntmps87
  go_wp2_with fail
  go_loop [4, 9] (fun r i => r = .bool false ∧ ∃ k : Nat, k ≤ n ∧ i = .int .i64 k ∧ Hid (allN (sameI x zs) k = true)) (fun _ i => n - (intOf i).toNat)
  case atStart => exact ⟨rfl, 0, Nat.zero_le _, rfl, rfl⟩
  case round =>
    obtain ⟨rfl, k, hk, rfl, hS⟩ := hrel
    by_cases hlt : k < n
    · obtain ⟨b, off, z, rfl, hb, hz, c0⟩ := h.at_ hlt
      cases he : (z == x)
      · have HE := Lib.hid (allN_stop (p := sameI x zs) (k := k) (n := n) (by unfold sameI; rw [← hz.out]; exact he) hlt)
        have he2 : (z != x) = true := by simp only [bne, he]; rfl
        clear he
        go_wp2_with fail
        go_ret
        exact ⟨retB HE.out.symm, rfl⟩
      · have HE := Lib.hid (allN_go hS.out (p := sameI x zs) (k := k) (by unfold sameI; rw [← hz.out]; exact he))
        have he2 : (z != x) = false := by simp only [bne, he]; rfl
        clear he
        go_wp2_with fail
        go_round
        case rel => exact ⟨rfl, k + 1, by omega, by go_num, HE.out⟩
        case measure => simp [intOf]; omega
    · obtain rfl : k = n := by omega
      go_wp2_with fail
      go_ret
      exact ⟨retB hS.out.symm, rfl⟩

set_option maxRecDepth 100000 in
set_option maxHeartbeats 4000000 in
theorem implIsCore (a0 a1 : Option Addr) (n0 c0 n1 c1 B : Nat) (zs : List TAS) (r : Int) (w : World) (h : HasAS w B a0 n0 zs) (hB : B ≤ w.heap.size) (hn : n0 ≤ 1048576) :
    Calls Tryz.prog 83 #[.agg #[.slice a0 n0 c0, .slice a1 n1 c1], .int .i64 r] w fun e w' => e = .returned (.bool (coreB zs n0 r)) ∧ Mk0 w w' := by
  have M0 := Mk.alloc w (Obj.cells #[Value.slice a0 n0 c0, Value.slice a1 n1 c1] 35)
  have k0 : (w.alloc (Obj.cells #[Value.slice a0 n0 c0, Value.slice a1 n1 c1] 35)).cell? ⟨w.heap.size, 0, none⟩ = some (.slice a0 n0 c0) := by simp [go_sem]
  cases hr : isAsB n0 r
  · have HR := Lib.hid (show coreB zs n0 r = false by unfold coreB; rw [hr]; rfl)
    have HI := Lib.hid hr
    clear hr
    go_enter Tryz.func83, Tryz.ntmps83
    go_wp2_with fail
    refine (implIsAS a0 a1 n0 c0 n1 c1 r _ hn).mono ?_
    rintro e w2 ⟨he, m2⟩
    rw [HI.out] at he
    subst he
    go_wp2_with fail
    go_ret
    exact ⟨retB HR.out.symm, M0.trans m2⟩
  · have hq := of_decide_eq_true (show decide (0 ≤ r ∧ r < (n0 : Int)) = true from hr)
    obtain ⟨q, hqr⟩ : ∃ q : Nat, (q : Int) = r := ⟨r.toNat, by omega⟩
    subst hqr
    have hqn : q < n0 := by omega
    obtain ⟨b, o, y, rfl, hb, hy, d0, d1, d2⟩ := HasAS.at _ _ _ _ _ _ (h.mk M0 hB (.inr (Nat.le_refl _))) hqn
    have HR := Lib.hid (show coreB zs n0 (q : Int) = y.core by unfold coreB; rw [hr, hy.out]; simp)
    have HI := Lib.hid hr
    have i1 : (0 : Int) ≤ (q : Int) := by omega
    have i2 : (q : Int) < (n0 : Int) := by omega
    clear hr hq d0 d2
    go_enter Tryz.func83, Tryz.ntmps83
    go_wp2_with fail
    refine (implIsAS _ a1 n0 c0 n1 c1 (q : Int) _ hn).mono ?_
    rintro e w2 ⟨he, m2⟩
    rw [HI.out] at he
    subst he
    replace k0 := m2.cellAt k0
    replace d1 := m2.cellAt d1
    go_wp2_with fail
    go_ret
    exact ⟨retB HR.out.symm, M0.trans m2⟩

def OutRC (w : World) (R : List Int) (e : Ending) (w' : World) : Prop :=
  ∃ A N c, e = .returned (.slice A N c) ∧ N ≤ c ∧ Own .i64 w' w.heap.size A N R ∧ Mk0 w w'
theorem OutRC.of {w w' : World} {R : List Int} {v : Value} {n : Nat} {e : TypeId} (h : w'.ownsRow w.heap.size e 1 v n (R.map (.int .i64))) (hb : Mk0 w w') : OutRC w R (.returned v) w' := by
  obtain ⟨A, c, rfl, hc, hn⟩ := ownsRow_sliceR2 h
  exact ⟨A, n, c, rfl, hn.1, ownsRow_own h, hb⟩
def egK (zl : List TLink) (n1 : Nat) (x : THop) : List Int := if x.eg = 0 then [] else [kindOf zl x.nd x.eg n1]
def egUp (zl : List TLink) (n1 : Nat) (zs : List THop) : Nat → List Int
  | 0 => []
  | k + 1 => egUp zl n1 zs k ++ egK zl n1 (zs.getD k default)
theorem egUp_len (zl : List TLink) (n1 : Nat) (zs : List THop) : ∀ k, (egUp zl n1 zs k).length ≤ k
  | 0 => by simp [egUp]
  | k + 1 => by
    have h := egUp_len zl n1 zs k
    have h1 : (egK zl n1 (zs.getD k default)).length ≤ 1 := by unfold egK; split <;> simp
    rw [egUp, List.length_append]
    omega
set_option maxRecDepth 100000 in
set_option maxHeartbeats 4000000 in
theorem implEgKinds (a0 a1 : Option Addr) (n0 c0 n1 c1 B : Nat) (zl : List TLink) (x0 x1 : Int) (a : Option Addr) (n c B' : Nat) (zs : List THop) (w : World) (hl : HasLink w B a1 n1 zl) (hB : B ≤ w.heap.size) (hn1 : n1 ≤ 1048576) (h : HasHop w B' a n zs) (hB' : B' ≤ w.heap.size) (hn : n ≤ 1048576) :
    Calls Tryz.prog 86 #[.agg #[.slice a0 n0 c0, .slice a1 n1 c1], .agg #[.int .i64 x0, .int .i64 x1, .slice a n c]] w (OutRC w (egUp zl n1 zs n)) := by
  obtain ⟨i0, hi, hz0, hz1, hz2⟩ := info_parts infoI64
  have hby : i0.bytes ≤ 8 := by rw [hz2]; decide
  have M0 := (Mk.alloc w (Obj.cells #[Value.slice a0 n0 c0, Value.slice a1 n1 c1] 35)).new (Obj.cells #[Value.int .i64 x0, Value.int .i64 x1, Value.slice a n c] 39)
  have hs2 : ((w.alloc (Obj.cells #[Value.slice a0 n0 c0, Value.slice a1 n1 c1] 35)).alloc (Obj.cells #[Value.int .i64 x0, Value.int .i64 x1, Value.slice a n c] 39)).heap.size = w.heap.size + 1 + 1 := by rw [World.size_alloc, World.size_alloc]
  have k0 : ((w.alloc (Obj.cells #[Value.slice a0 n0 c0, Value.slice a1 n1 c1] 35)).alloc (Obj.cells #[Value.int .i64 x0, Value.int .i64 x1, Value.slice a n c] 39)).cell? ⟨w.heap.size, 0, none⟩ = some (.slice a0 n0 c0) := by simp [go_sem]
  have k1 : ((w.alloc (Obj.cells #[Value.slice a0 n0 c0, Value.slice a1 n1 c1] 35)).alloc (Obj.cells #[Value.int .i64 x0, Value.int .i64 x1, Value.slice a n c] 39)).cell? ⟨w.heap.size, 1, none⟩ = some (.slice a1 n1 c1) := by simp [go_sem]
  have hl0 := own_lit ((w.alloc (Obj.cells #[Value.slice a0 n0 c0, Value.slice a1 n1 c1] 35)).alloc (Obj.cells #[Value.int .i64 x0, Value.int .i64 x1, Value.slice a n c] 39)) 3 [] (by simp)
  have ML := Mk.alloc ((w.alloc (Obj.cells #[Value.slice a0 n0 c0, Value.slice a1 n1 c1] 35)).alloc (Obj.cells #[Value.int .i64 x0, Value.int .i64 x1, Value.slice a n c] 39)) (.cells #[] 3)
  rw [hs2] at hl0
  go_enter Tryz.func86, Tryz.ntmps86
  go_wp2_with fail
  go_loopw [5, 12] (fun v i wr => ∃ k : Nat, k ≤ n ∧ i = .int .i64 k ∧ wr.ownsRow (w.heap.size + 1 + 1) 3 1 v (egUp zl n1 zs k).length ((egUp zl n1 zs k).map (.int .i64)) ∧ Mk0 ((w.alloc (Obj.cells #[Value.slice a0 n0 c0, Value.slice a1 n1 c1] 35)).alloc (Obj.cells #[Value.int .i64 x0, Value.int .i64 x1, Value.slice a n c] 39)) wr) (fun _ i _ => n - (intOf i).toNat)
  case atStart => exact ⟨0, Nat.zero_le _, rfl, hl0, ML⟩
  case round =>
    clear hl0 ML
    obtain ⟨k, hk, rfl, hown, hM⟩ := hrel
    have M1 := M0.trans hM
    replace k0 := hM.cellAt k0
    replace k1 := hM.cellAt k1
    have hlow := hM.size
    rw [hs2] at hlow
    have hul := egUp_len zl n1 zs k
    by_cases hlt : k < n
    · obtain ⟨b, off, x, rfl, hb, hx, d0, d1, d2, d3, d4⟩ := HasHop.at _ _ _ _ _ _ (h.mk M1 hB' (.inr (Nat.le_refl _))) hlt
      have hbr := World.block_lt_of_cell? _ _ d0
      have hbq := World.block_lt_of_cell? _ _ k0
      simp only at hbr hbq
      have i1 : (0 : Int) ≤ (k : Int) := by omega
      have i2 : (k : Int) < (n : Int) := by omega
      have MB := Mk.alloc wr (Obj.cells #[Value.int .i64 x.nd, Value.int .i64 x.ing, Value.int .i64 x.eg, Value.int .i64 x.exp, Value.int .i64 x.mac] 61)
      cases e : (x.eg == 0)
      · have HE := Lib.hid (show egUp zl n1 zs (k + 1) = egUp zl n1 zs k ++ [kindOf zl x.nd x.eg n1] by rw [egUp, ← hx.out]; unfold egK; rw [if_neg (by simpa using e)])
        have e' : (x.eg != 0) = true := by simp only [bne, e]; rfl
        clear e
        obtain ⟨L, hLq⟩ : ∃ L, Hid (L = egUp zl n1 zs k) := ⟨_, Lib.hid rfl⟩
        rw [← hLq.out] at hown hul HE
        obtain ⟨V, hV⟩ : ∃ V, Hid (V = kindOf zl x.nd x.eg n1) := ⟨_, Lib.hid rfl⟩
        rw [← hV.out] at HE
        go_wp2_with fail
        refine (implKind a0 a1 n0 c0 n1 c1 B zl x.nd x.eg _ (hl.mk (M1.trans MB) hB (.inr (Nat.le_refl _))) (Nat.le_trans hB (M1.trans MB).size) hn1).mono ?_
        rintro e w2 ⟨rfl, m2⟩
        rw [← hV.out]
        have hn1' := has_new .i64 w2 3 V
        have MA := Mk.alloc w2 (.cells #[.int .i64 V] 3)
        have ho' := own_keptR (own_keptR (own_keptR hown MB) m2) MA
        have M2 := MB.trans m2
        have hlo' := Nat.le_trans hlow (Nat.le_trans M2.size MA.size)
        go_wp2_with (at_builtin; refine wpList_app rfl (.tmp 19) (.tmp 26) 58 rfl _ 3 i0 Tryz.underlying58 hi hz0 hz1 hby _ L L.length rfl ho' _ 1 1 [V] rfl (fun h => by cases h) hn1' (by omega) hlo' ?_; intro v3 w3 ho3 hg3 _)
        have M3 := (hM.trans (M2.trans MA)).appR hg3 (fun g hg => by have := (ho'.lt g hg).1; omega)
        go_wp2_with fail
        go_roundw
        case rel => exact ⟨k + 1, by omega, by go_num, by rw [HE.out, List.length_append]; exact ho3, M3⟩
        case measure => simp [intOf]; omega
      · have HE := Lib.hid (show egUp zl n1 zs (k + 1) = egUp zl n1 zs k by rw [egUp, ← hx.out]; unfold egK; rw [if_pos (by simpa using e), List.append_nil])
        have e' : (x.eg != 0) = false := by simp only [bne, e]; rfl
        clear e
        go_wp2_with fail
        go_roundw
        case rel => exact ⟨k + 1, by omega, by go_num, by rw [HE.out]; exact own_keptR hown MB, hM.trans MB⟩
        case measure => simp [intOf]; omega
    · obtain rfl : k = n := by omega
      go_wp2_with fail
      go_ret
      exact OutRC.of (own_lowR hown (by omega)) M1

end Go.Proofs.YtdhdkhnefnbdgaaGreatDoor
namespace Go.Proofs.YtdhdkhnefnbdgaaGreatDoor
open Go.ChangeShapes Go.WideShapes Go.ChangeAt Go.RowKit
set_option linter.unusedVariables false
/-- A call that hands back a row of numbers that stands. -/
def OutIn (w : World) (B : Nat) (R : List Int) (e : Ending) (w' : World) : Prop :=
  ∃ A N c, e = .returned (.slice A N c) ∧ w = w' ∧ Has .i64 w B A N R ∧ N ≤ c
def lenOf : Value → Nat
  | .slice _ n _ => n
  | _ => 0
def restS (m : Int) (w : World) (B : Nat) (D : List Int) (v : Value) : Prop :=
  ∃ A N C L, v = .slice A N C ∧ Has .i64 w B A N L ∧ N ≤ C ∧ N ≤ 4194304 ∧ L.dropWhile (· == m) = D
theorem has_nil {w : World} {B : Nat} (A : Option Addr) : Has .i64 w B A 0 [] := ⟨rfl, fun h => absurd h (by omega)⟩
theorem has_tail {w : World} {B N b off : Nat} {z : Int} {L : List Int} (h : Has .i64 w B (some ⟨b, off, none⟩) (N + 1) (z :: L)) : Has .i64 w B (some ⟨b, off + 1, none⟩) N L := by
  refine ⟨by have := h.1; simpa using this, fun hN => ?_⟩
  obtain ⟨b', off', e, hb, hc⟩ := h.2 (by omega)
  simp only [Option.some.injEq, Addr.mk.injEq, and_true] at e
  obtain ⟨rfl, rfl⟩ := e
  refine ⟨b, off + 1, rfl, hb, fun i hi => ?_⟩
  have := hc (i + 1) (by omega)
  rw [show off + 1 + i = off + (i + 1) by omega, this]
  simp
set_option maxRecDepth 100000 in
set_option maxHeartbeats 4000000 in
theorem implDrop (m : Int) (a : Option Addr) (n c B : Nat) (zs : List Int) (w : World) (h : Has .i64 w B a n zs) (hn : n ≤ 4194304) (hc : n ≤ c) :
    Calls Tryz.prog 85 #[.int .i64 m, .slice a n c] w (OutIn w B (zs.dropWhile (· == m))) := by
  go_enter Tryz.func85, Tryz.ntmps85
  go_wp2_with fail
  go_loop [1] (fun v => restS m w B (zs.dropWhile (· == m)) v) (fun v => lenOf v)
  case atStart => exact ⟨a, n, c, zs, rfl, h, hc, hn, rfl⟩
  case round =>
    obtain ⟨A, N, C, L, rfl, hh, hNC, hN4, hD⟩ := hrel
    rcases N with _ | N
    · obtain rfl : L = [] := List.eq_nil_of_length_eq_zero hh.1
      have HD := Lib.hid hD
      clear hD
      go_wp2_with fail
      go_ret
      exact ⟨A, 0, C, rfl, rfl, HD.out ▸ has_nil A, hNC⟩
    · rcases L with _ | ⟨z, L⟩
      · have := hh.1; simp at this
      obtain ⟨b, off, z', rfl, hb, hz, c0⟩ := hh.at_ (i := 0) (by omega)
      obtain rfl : z = z' := by rw [hz.out]; rfl
      rw [Nat.add_zero] at c0
      have HH := Lib.hid hh
      have g0 : decide (0 < N + 1) = true := decide_eq_true (by omega)
      have g1 : decide ((0 : Int) < ((N + 1 : Nat) : Int)) = true := decide_eq_true (by omega)
      cases he : (z == m)
      · have HD := Lib.hid (show (z :: L).dropWhile (· == m) = z :: L by rw [List.dropWhile_cons, he]; rfl)
        have HD2 := Lib.hid hD
        clear hD hh
        go_wp2_with fail
        go_ret
        exact ⟨_, N + 1, C, rfl, rfl, by rw [← HD2.out, HD.out]; exact HH.out, hNC⟩
      · have HD := Lib.hid (show L.dropWhile (· == m) = zs.dropWhile (· == m) by rw [← hD, List.dropWhile_cons, he]; rfl)
        clear hD hh
        by_cases hC : C = 1
        · subst hC
          obtain rfl : N = 0 := by omega
          go_wp2_with fail
          go_round
          case rel => exact ⟨_, 0, 0, L, rfl, by have := HH.out.1; simp at this; subst this; exact has_nil _, by omega, by omega, HD.out⟩
          case measure => simp [lenOf]
        · have hC' : (C == 1) = false := by simpa using hC
          go_wp2_with fail
          go_round
          case rel => exact ⟨_, N, C - 1, L, rfl, has_tail HH.out, by omega, by omega, HD.out⟩
          case measure => simp [lenOf]

end Go.Proofs.YtdhdkhnefnbdgaaGreatDoor
namespace Go.Proofs.YtdhdkhnefnbdgaaGreatDoor
open Go.ChangeShapes Go.WideShapes Go.ChangeAt Go.RowKit
set_option linter.unusedVariables false
/-- What the model knows behind some interfaces: none: two kinds have come; a kind: that one alone. -/
def stK (o : Option Int) (x : Int) : Option Int := o.bind fun k => if k != 0 && x != k then none else some x
def resS (o : Option Int) : Int := match o with
  | some k => if k = 1 then 1 else if k = 2 then 2 else 0
  | none => 0
def resI (L : List Int) : Int := if L.length = 0 then 0 else if L.all (· == 1) then 1 else if L.all (· == 2) then 2 else 0
theorem stK_none (L : List Int) : L.foldl stK none = none := by
  induction L with
  | nil => rfl
  | cons x L ih => exact ih
theorem stK_zero (L : List Int) : L.foldl stK (some 0) = (L.dropWhile (· == 0)).foldl stK (some 0) := by
  induction L with
  | nil => rfl
  | cons x L ih =>
    rw [List.dropWhile_cons]
    by_cases hx : x = 0
    · subst hx; exact ih
    · have : (x == 0) = false := by simpa using hx
      rw [this]; rfl
theorem stK_same {k : Int} (hk : k ≠ 0) (L : List Int) : L.foldl stK (some k) = if L.all (· == k) then some k else none := by
  induction L with
  | nil => rfl
  | cons x L ih =>
    rw [List.foldl_cons, List.all_cons]
    have h1 : (k != 0) = true := by simpa using hk
    by_cases hx : x = k
    · subst hx
      have : stK (some x) x = some x := by simp [stK]
      rw [this, ih]; simp
    · have h2 : (x == k) = false := by simpa using hx
      have : stK (some k) x = none := by simp [stK, hk, hx]
      rw [this, stK_none, h2]; rfl
theorem all_two {L : List Int} {x k : Int} (h : (x :: L).all (· == k) = true) : x = k := by
  rw [List.all_cons, Bool.and_eq_true] at h
  simpa using h.1
theorem kd_same (L : List Int) : resS (L.foldl stK (some 0)) = resI (L.dropWhile (· == 0)) := by
  rw [stK_zero]
  generalize hK : L.dropWhile (· == 0) = K
  rcases K with _ | ⟨x, K⟩
  · rfl
  · have hx : x ≠ 0 := by
      intro h
      subst h
      have := List.head?_dropWhile_not (p := (· == (0 : Int))) (l := L)
      rw [hK] at this
      simp at this
    have h1 : stK (some 0) x = some x := by simp [stK]
    rw [List.foldl_cons, h1, stK_same hx]
    have hR : resI (x :: K) = if (x :: K).all (· == 1) then 1 else if (x :: K).all (· == 2) then 2 else 0 := by
      unfold resI
      rw [if_neg (by simp)]
    rw [hR]
    clear hR
    cases ha : K.all (· == x) with
    | true =>
      rw [if_pos rfl]
      by_cases e1 : x = 1
      · subst e1; rw [if_pos (by rw [List.all_cons, ha]; rfl)]; rfl
      · rw [if_neg (fun h => e1 (all_two h))]
        by_cases e2 : x = 2
        · subst e2; rw [if_pos (by rw [List.all_cons, ha]; rfl)]; rfl
        · rw [if_neg (fun h => e2 (all_two h))]
          simp [resS, e1, e2]
    | false =>
      rw [if_neg (show ¬ (false = true) by simp)]
      have h3 : ∀ k, ¬ (x :: K).all (· == k) = true := by
        intro k h
        obtain rfl := all_two h
        rw [List.all_cons, Bool.and_eq_true, ha] at h
        cases h.2
      rw [if_neg (h3 1), if_neg (h3 2)]
      rfl
theorem all_allN (x : Int) (L : List Int) : allN (sameI x L) L.length = L.all (· == x) := by
  rw [Bool.eq_iff_iff, allN_iff, List.all_eq_true]
  constructor
  · intro h y hy
    obtain ⟨k, hk, rfl⟩ := List.mem_iff_getElem.1 hy
    have := h k hk
    simpa [sameI, List.getD_eq_getElem?_getD, hk] using this
  · intro h k hk
    have := h L[k] (List.getElem_mem hk)
    simpa [sameI, List.getD_eq_getElem?_getD, hk] using this
/-- The kind of a segment. -/
def sgKd (n0 : Nat) (zA : List TAS) (zl : List TLink) (n1 : Nat) (zs : List THop) (n : Nat) : Int :=
  if (wfB n0 zl n1 zs n && coreB zA n0 (segFirst zs n)) = true then resI ((egUp zl n1 zs n).dropWhile (· == 0)) else 0
theorem wfB_n {n0 : Nat} {zl : List TLink} {n1 : Nat} {zs : List THop} {n : Nat} (h : wfB n0 zl n1 zs n = true) : 1 ≤ n ∧ n ≤ 8 := by
  unfold wfB at h
  rw [Bool.and_eq_true] at h
  exact of_decide_eq_true h.1
theorem wfB_first {n0 : Nat} {zl : List TLink} {n1 : Nat} {zs : List THop} {n : Nat} (h : wfB n0 zl n1 zs n = true) : isAsB n0 (segFirst zs n) = true := by
  have hn := wfB_n h
  unfold wfB at h
  simp only [Bool.and_eq_true] at h
  have := (allN_iff _ _).1 h.2.2 0 (by omega)
  simp only [wfI, Bool.and_eq_true] at this
  have e : segFirst zs n = (zs.getD 0 default).nd := by unfold segFirst; rw [if_neg (by omega)]
  rw [e]
  exact this.2.1
set_option maxRecDepth 100000 in
set_option maxHeartbeats 4000000 in
theorem implSgKind (a0 a1 : Option Addr) (n0 c0 n1 c1 B : Nat) (zA : List TAS) (zl : List TLink) (x0 x1 : Int) (a : Option Addr) (n c B' : Nat) (zs : List THop) (w : World) (hA : HasAS w B a0 n0 zA) (hl : HasLink w B a1 n1 zl) (hB : B ≤ w.heap.size) (hn0 : n0 ≤ 1048576) (hn1 : n1 ≤ 1048576) (h : HasHop w B' a n zs) (hB' : B' ≤ w.heap.size) (hn : n ≤ 1048576) :
    Calls Tryz.prog 58 #[.agg #[.slice a0 n0 c0, .slice a1 n1 c1], .agg #[.int .i64 x0, .int .i64 x1, .slice a n c]] w fun e w' => e = .returned (.int .i64 (sgKd n0 zA zl n1 zs n)) ∧ Mk0 w w' := by
  have M0 := (Mk.alloc w (Obj.cells #[Value.slice a0 n0 c0, Value.slice a1 n1 c1] 35)).new (Obj.cells #[Value.int .i64 x0, Value.int .i64 x1, Value.slice a n c] 39)
  have k0 : ((w.alloc (Obj.cells #[Value.slice a0 n0 c0, Value.slice a1 n1 c1] 35)).alloc (Obj.cells #[Value.int .i64 x0, Value.int .i64 x1, Value.slice a n c] 39)).cell? ⟨w.heap.size, 0, none⟩ = some (.slice a0 n0 c0) := by simp [go_sem]
  have k1 : ((w.alloc (Obj.cells #[Value.slice a0 n0 c0, Value.slice a1 n1 c1] 35)).alloc (Obj.cells #[Value.int .i64 x0, Value.int .i64 x1, Value.slice a n c] 39)).cell? ⟨w.heap.size, 1, none⟩ = some (.slice a1 n1 c1) := by simp [go_sem]
  have j0 : ((w.alloc (Obj.cells #[Value.slice a0 n0 c0, Value.slice a1 n1 c1] 35)).alloc (Obj.cells #[Value.int .i64 x0, Value.int .i64 x1, Value.slice a n c] 39)).cell? ⟨w.heap.size + 1, 0, none⟩ = some (.int .i64 x0) := by simp [go_sem]
  have j1 : ((w.alloc (Obj.cells #[Value.slice a0 n0 c0, Value.slice a1 n1 c1] 35)).alloc (Obj.cells #[Value.int .i64 x0, Value.int .i64 x1, Value.slice a n c] 39)).cell? ⟨w.heap.size + 1, 1, none⟩ = some (.int .i64 x1) := by simp [go_sem]
  have j2 : ((w.alloc (Obj.cells #[Value.slice a0 n0 c0, Value.slice a1 n1 c1] 35)).alloc (Obj.cells #[Value.int .i64 x0, Value.int .i64 x1, Value.slice a n c] 39)).cell? ⟨w.heap.size + 1, 2, none⟩ = some (.slice a n c) := by simp [go_sem]
  obtain ⟨V, hV⟩ : ∃ V, Hid (V = segFirst zs n) := ⟨_, Lib.hid rfl⟩
  have HV := Lib.hid hV.out
  clear hV
  cases hw : wfB n0 zl n1 zs n
  · have HR := Lib.hid (show sgKd n0 zA zl n1 zs n = 0 by unfold sgKd; rw [hw]; rfl)
    have HW := Lib.hid hw
    clear hw
    go_enter Tryz.func58, Tryz.ntmps58
    go_wp2_with fail
    refine wp_region_wk (fun w' => Mk0 ((w.alloc (Obj.cells #[Value.slice a0 n0 c0, Value.slice a1 n1 c1] 35)).alloc (Obj.cells #[Value.int .i64 x0, Value.int .i64 x1, Value.slice a n c] 39)) w' ∧ w'.cell? ⟨w.heap.size, 0, none⟩ = some (.slice a0 n0 c0) ∧ w'.cell? ⟨w.heap.size, 1, none⟩ = some (.slice a1 n1 c1) ∧ w'.cell? ⟨w.heap.size + 1, 0, none⟩ = some (.int .i64 x0) ∧ w'.cell? ⟨w.heap.size + 1, 1, none⟩ = some (.int .i64 x1) ∧ w'.cell? ⟨w.heap.size + 1, 2, none⟩ = some (.slice a n c)) (by kernel_rfl) (by kernel_rfl) (⟨Mk.drew1 _, k0, k1, j0, j1, j2⟩) ?_
    change Wk _ _ _ _ 11 0 _
    first | (refine Wk.skip (m := 10) (k := 0) rfl (by rfl) ?_) | (refine Wk.step (m := 10) (k := 0) (v := _) rfl (by rfl) (fun wv hS => by obtain ⟨s0, s1, s2, s3, s4, s5⟩ := hS; go_simp; try with_reducible rfl) ?_)
    try simp only [Act.put, List.getElem_toArray, List.getElem_cons_zero, List.setIfInBounds_toArray, List.set_cons_zero, List.set_cons_succ]
    first | (refine Wk.skip (m := 9) (k := 1) rfl (by rfl) ?_) | (refine Wk.step (m := 9) (k := 1) (v := _) rfl (by rfl) (fun wv hS => by obtain ⟨s0, s1, s2, s3, s4, s5⟩ := hS; go_simp; try with_reducible rfl) ?_)
    try simp only [Act.put, List.getElem_toArray, List.getElem_cons_succ, List.getElem_cons_zero, List.setIfInBounds_toArray, List.set_cons_zero, List.set_cons_succ]
    refine Wk.call (m := 8) (k := 2) (v := .bool false) _ _ rfl (by rfl) (fun wv hS => by obtain ⟨s0, s1, s2, s3, s4, s5⟩ := hS; go_simp; first | done | exact ⟨rfl, rfl⟩ | with_reducible rfl) (fun wv hS => ?_) ?_; · obtain ⟨s0, s1, s2, s3, s4, s5⟩ := hS; refine (implWF a0 a1 n0 c0 n1 c1 B zl x0 x1 a n c B' zs wv (hl.mk (M0.trans s0) hB (.inr (Nat.le_refl _))) (Nat.le_trans hB (M0.trans s0).size) hn0 hn1 (h.mk (M0.trans s0) hB' (.inr (Nat.le_refl _))) (Nat.le_trans hB' (M0.trans s0).size) hn).mono ?_; rintro e w' ⟨he, mm⟩; exact ⟨by rw [he, HW.out], ⟨s0.trans mm, mm.cellAt s1, mm.cellAt s2, mm.cellAt s3, mm.cellAt s4, mm.cellAt s5⟩⟩
    try simp only [Act.put, List.getElem_toArray, List.getElem_cons_succ, List.getElem_cons_zero, List.setIfInBounds_toArray, List.set_cons_zero, List.set_cons_succ]
    first | (refine Wk.skip (m := 7) (k := 3) rfl (by rfl) ?_) | (refine Wk.step (m := 7) (k := 3) (v := _) rfl (by rfl) (fun wv hS => by obtain ⟨s0, s1, s2, s3, s4, s5⟩ := hS; go_simp; try with_reducible rfl) ?_)
    try simp only [Act.put, List.getElem_toArray, List.getElem_cons_succ, List.getElem_cons_zero, List.setIfInBounds_toArray, List.set_cons_zero, List.set_cons_succ]
    first | (refine Wk.skip (m := 6) (k := 4) rfl (by rfl) ?_) | (refine Wk.step (m := 6) (k := 4) (v := _) rfl (by rfl) (fun wv hS => by obtain ⟨s0, s1, s2, s3, s4, s5⟩ := hS; go_simp; try with_reducible rfl) ?_)
    try simp only [Act.put, List.getElem_toArray, List.getElem_cons_succ, List.getElem_cons_zero, List.setIfInBounds_toArray, List.set_cons_zero, List.set_cons_succ]
    first | (refine Wk.skip (m := 5) (k := 5) rfl (by rfl) ?_) | (refine Wk.step (m := 5) (k := 5) (v := _) rfl (by rfl) (fun wv hS => by obtain ⟨s0, s1, s2, s3, s4, s5⟩ := hS; go_simp; try with_reducible rfl) ?_)
    try simp only [Act.put, List.getElem_toArray, List.getElem_cons_succ, List.getElem_cons_zero, List.setIfInBounds_toArray, List.set_cons_zero, List.set_cons_succ]
    first | (refine Wk.skip (m := 4) (k := 6) rfl (by rfl) ?_) | (refine Wk.step (m := 4) (k := 6) (v := _) rfl (by rfl) (fun wv hS => by obtain ⟨s0, s1, s2, s3, s4, s5⟩ := hS; go_simp; try with_reducible rfl) ?_)
    try simp only [Act.put, List.getElem_toArray, List.getElem_cons_succ, List.getElem_cons_zero, List.setIfInBounds_toArray, List.set_cons_zero, List.set_cons_succ]
    refine Wk.skip (m := 3) (k := 7) rfl (by rfl) ?_
    try simp only [Act.put, List.getElem_toArray, List.getElem_cons_succ, List.getElem_cons_zero, List.setIfInBounds_toArray, List.set_cons_zero, List.set_cons_succ]
    refine Wk.skip (m := 2) (k := 8) rfl (by rfl) ?_
    try simp only [Act.put, List.getElem_toArray, List.getElem_cons_succ, List.getElem_cons_zero, List.setIfInBounds_toArray, List.set_cons_zero, List.set_cons_succ]
    first | (refine Wk.skip (m := 1) (k := 9) rfl (by rfl) ?_) | (refine Wk.step (m := 1) (k := 9) (v := _) rfl (by rfl) (fun wv hS => by obtain ⟨s0, s1, s2, s3, s4, s5⟩ := hS; go_simp; try with_reducible rfl) ?_)
    try simp only [Act.put, List.getElem_toArray, List.getElem_cons_succ, List.getElem_cons_zero, List.setIfInBounds_toArray, List.set_cons_zero, List.set_cons_succ]
    first | (refine Wk.skip (m := 0) (k := 10) rfl (by rfl) ?_) | (refine Wk.step (m := 0) (k := 10) (v := _) rfl (by rfl) (fun wv hS => by obtain ⟨s0, s1, s2, s3, s4, s5⟩ := hS; go_simp; try with_reducible rfl) ?_)
    try simp only [Act.put, List.getElem_toArray, List.getElem_cons_succ, List.getElem_cons_zero, List.setIfInBounds_toArray, List.set_cons_zero, List.set_cons_succ]
    refine Wk.done fun wE hE => ?_
    clear k0 k1 j0 j1 j2
    obtain ⟨mE, k0, k1, j0, j1, j2⟩ := hE
    go_wp2_with fail
    go_ret
    exact ⟨retI HR.out.symm, M0.trans mE⟩
  · cases hc : coreB zA n0 (segFirst zs n)
    · have HR := Lib.hid (show sgKd n0 zA zl n1 zs n = 0 by unfold sgKd; rw [hw, hc]; rfl)
      have HW := Lib.hid hw
      have HC := Lib.hid (show coreB zA n0 V = false by rw [HV.out]; exact hc)
      clear hw hc
      go_enter Tryz.func58, Tryz.ntmps58
      go_wp2_with fail
      refine wp_region_wk (fun w' => Mk0 ((w.alloc (Obj.cells #[Value.slice a0 n0 c0, Value.slice a1 n1 c1] 35)).alloc (Obj.cells #[Value.int .i64 x0, Value.int .i64 x1, Value.slice a n c] 39)) w' ∧ w'.cell? ⟨w.heap.size, 0, none⟩ = some (.slice a0 n0 c0) ∧ w'.cell? ⟨w.heap.size, 1, none⟩ = some (.slice a1 n1 c1) ∧ w'.cell? ⟨w.heap.size + 1, 0, none⟩ = some (.int .i64 x0) ∧ w'.cell? ⟨w.heap.size + 1, 1, none⟩ = some (.int .i64 x1) ∧ w'.cell? ⟨w.heap.size + 1, 2, none⟩ = some (.slice a n c)) (by kernel_rfl) (by kernel_rfl) (⟨Mk.drew1 _, k0, k1, j0, j1, j2⟩) ?_
      change Wk _ _ _ _ 11 0 _
      first | (refine Wk.skip (m := 10) (k := 0) rfl (by rfl) ?_) | (refine Wk.step (m := 10) (k := 0) (v := _) rfl (by rfl) (fun wv hS => by obtain ⟨s0, s1, s2, s3, s4, s5⟩ := hS; go_simp; try with_reducible rfl) ?_)
      try simp only [Act.put, List.getElem_toArray, List.getElem_cons_zero, List.setIfInBounds_toArray, List.set_cons_zero, List.set_cons_succ]
      first | (refine Wk.skip (m := 9) (k := 1) rfl (by rfl) ?_) | (refine Wk.step (m := 9) (k := 1) (v := _) rfl (by rfl) (fun wv hS => by obtain ⟨s0, s1, s2, s3, s4, s5⟩ := hS; go_simp; try with_reducible rfl) ?_)
      try simp only [Act.put, List.getElem_toArray, List.getElem_cons_succ, List.getElem_cons_zero, List.setIfInBounds_toArray, List.set_cons_zero, List.set_cons_succ]
      refine Wk.call (m := 8) (k := 2) (v := .bool true) _ _ rfl (by rfl) (fun wv hS => by obtain ⟨s0, s1, s2, s3, s4, s5⟩ := hS; go_simp; first | done | exact ⟨rfl, rfl⟩ | with_reducible rfl) (fun wv hS => ?_) ?_; · obtain ⟨s0, s1, s2, s3, s4, s5⟩ := hS; refine (implWF a0 a1 n0 c0 n1 c1 B zl x0 x1 a n c B' zs wv (hl.mk (M0.trans s0) hB (.inr (Nat.le_refl _))) (Nat.le_trans hB (M0.trans s0).size) hn0 hn1 (h.mk (M0.trans s0) hB' (.inr (Nat.le_refl _))) (Nat.le_trans hB' (M0.trans s0).size) hn).mono ?_; rintro e w' ⟨he, mm⟩; exact ⟨by rw [he, HW.out], ⟨s0.trans mm, mm.cellAt s1, mm.cellAt s2, mm.cellAt s3, mm.cellAt s4, mm.cellAt s5⟩⟩
      try simp only [Act.put, List.getElem_toArray, List.getElem_cons_succ, List.getElem_cons_zero, List.setIfInBounds_toArray, List.set_cons_zero, List.set_cons_succ]
      first | (refine Wk.skip (m := 7) (k := 3) rfl (by rfl) ?_) | (refine Wk.step (m := 7) (k := 3) (v := _) rfl (by rfl) (fun wv hS => by obtain ⟨s0, s1, s2, s3, s4, s5⟩ := hS; go_simp; try with_reducible rfl) ?_)
      try simp only [Act.put, List.getElem_toArray, List.getElem_cons_succ, List.getElem_cons_zero, List.setIfInBounds_toArray, List.set_cons_zero, List.set_cons_succ]
      first | (refine Wk.skip (m := 6) (k := 4) rfl (by rfl) ?_) | (refine Wk.step (m := 6) (k := 4) (v := _) rfl (by rfl) (fun wv hS => by obtain ⟨s0, s1, s2, s3, s4, s5⟩ := hS; go_simp; try with_reducible rfl) ?_)
      try simp only [Act.put, List.getElem_toArray, List.getElem_cons_succ, List.getElem_cons_zero, List.setIfInBounds_toArray, List.set_cons_zero, List.set_cons_succ]
      first | (refine Wk.skip (m := 5) (k := 5) rfl (by rfl) ?_) | (refine Wk.step (m := 5) (k := 5) (v := _) rfl (by rfl) (fun wv hS => by obtain ⟨s0, s1, s2, s3, s4, s5⟩ := hS; go_simp; try with_reducible rfl) ?_)
      try simp only [Act.put, List.getElem_toArray, List.getElem_cons_succ, List.getElem_cons_zero, List.setIfInBounds_toArray, List.set_cons_zero, List.set_cons_succ]
      first | (refine Wk.skip (m := 4) (k := 6) rfl (by rfl) ?_) | (refine Wk.step (m := 4) (k := 6) (v := _) rfl (by rfl) (fun wv hS => by obtain ⟨s0, s1, s2, s3, s4, s5⟩ := hS; go_simp; try with_reducible rfl) ?_)
      try simp only [Act.put, List.getElem_toArray, List.getElem_cons_succ, List.getElem_cons_zero, List.setIfInBounds_toArray, List.set_cons_zero, List.set_cons_succ]
      refine Wk.call (m := 3) (k := 7) (v := .int .i64 V) _ _ rfl (by rfl) (fun wv hS => by obtain ⟨s0, s1, s2, s3, s4, s5⟩ := hS; go_simp; first | done | exact ⟨rfl, rfl⟩ | with_reducible rfl) (fun wv hS => ?_) ?_; · obtain ⟨s0, s1, s2, s3, s4, s5⟩ := hS; refine (implFirst x0 x1 a n c B' zs wv (h.mk (M0.trans s0) hB' (.inr (Nat.le_refl _))) (Nat.le_trans hB' (M0.trans s0).size) hn).mono ?_; rintro e w' ⟨he, mm⟩; exact ⟨by rw [he, ← HV.out], ⟨s0.trans mm, mm.cellAt s1, mm.cellAt s2, mm.cellAt s3, mm.cellAt s4, mm.cellAt s5⟩⟩
      try simp only [Act.put, List.getElem_toArray, List.getElem_cons_succ, List.getElem_cons_zero, List.setIfInBounds_toArray, List.set_cons_zero, List.set_cons_succ]
      refine Wk.call (m := 2) (k := 8) (v := .bool false) _ _ rfl (by rfl) (fun wv hS => by obtain ⟨s0, s1, s2, s3, s4, s5⟩ := hS; go_simp; first | done | exact ⟨rfl, rfl⟩ | with_reducible rfl) (fun wv hS => ?_) ?_; · obtain ⟨s0, s1, s2, s3, s4, s5⟩ := hS; refine (implIsCore a0 a1 n0 c0 n1 c1 B zA V wv (hA.mk (M0.trans s0) hB (.inr (Nat.le_refl _))) (Nat.le_trans hB (M0.trans s0).size) hn0).mono ?_; rintro e w' ⟨he, mm⟩; exact ⟨by rw [he, HC.out], ⟨s0.trans mm, mm.cellAt s1, mm.cellAt s2, mm.cellAt s3, mm.cellAt s4, mm.cellAt s5⟩⟩
      try simp only [Act.put, List.getElem_toArray, List.getElem_cons_succ, List.getElem_cons_zero, List.setIfInBounds_toArray, List.set_cons_zero, List.set_cons_succ]
      first | (refine Wk.skip (m := 1) (k := 9) rfl (by rfl) ?_) | (refine Wk.step (m := 1) (k := 9) (v := _) rfl (by rfl) (fun wv hS => by obtain ⟨s0, s1, s2, s3, s4, s5⟩ := hS; go_simp; try with_reducible rfl) ?_)
      try simp only [Act.put, List.getElem_toArray, List.getElem_cons_succ, List.getElem_cons_zero, List.setIfInBounds_toArray, List.set_cons_zero, List.set_cons_succ]
      first | (refine Wk.skip (m := 0) (k := 10) rfl (by rfl) ?_) | (refine Wk.step (m := 0) (k := 10) (v := _) rfl (by rfl) (fun wv hS => by obtain ⟨s0, s1, s2, s3, s4, s5⟩ := hS; go_simp; try with_reducible rfl) ?_)
      try simp only [Act.put, List.getElem_toArray, List.getElem_cons_succ, List.getElem_cons_zero, List.setIfInBounds_toArray, List.set_cons_zero, List.set_cons_succ]
      refine Wk.done fun wE hE => ?_
      clear k0 k1 j0 j1 j2
      obtain ⟨mE, k0, k1, j0, j1, j2⟩ := hE
      go_wp2_with fail
      go_ret
      exact ⟨retI HR.out.symm, M0.trans mE⟩
    · have HR := Lib.hid (show sgKd n0 zA zl n1 zs n = resI ((egUp zl n1 zs n).dropWhile (· == 0)) by unfold sgKd; rw [hw, hc]; rfl)
      have hnn := wfB_n hw
      have HW := Lib.hid hw
      have HC := Lib.hid (show coreB zA n0 V = true by rw [HV.out]; exact hc)
      clear hw hc
      go_enter Tryz.func58, Tryz.ntmps58
      go_wp2_with fail
      refine wp_region_wk (fun w' => Mk0 ((w.alloc (Obj.cells #[Value.slice a0 n0 c0, Value.slice a1 n1 c1] 35)).alloc (Obj.cells #[Value.int .i64 x0, Value.int .i64 x1, Value.slice a n c] 39)) w' ∧ w'.cell? ⟨w.heap.size, 0, none⟩ = some (.slice a0 n0 c0) ∧ w'.cell? ⟨w.heap.size, 1, none⟩ = some (.slice a1 n1 c1) ∧ w'.cell? ⟨w.heap.size + 1, 0, none⟩ = some (.int .i64 x0) ∧ w'.cell? ⟨w.heap.size + 1, 1, none⟩ = some (.int .i64 x1) ∧ w'.cell? ⟨w.heap.size + 1, 2, none⟩ = some (.slice a n c)) (by kernel_rfl) (by kernel_rfl) (⟨Mk.drew1 _, k0, k1, j0, j1, j2⟩) ?_
      change Wk _ _ _ _ 11 0 _
      first | (refine Wk.skip (m := 10) (k := 0) rfl (by rfl) ?_) | (refine Wk.step (m := 10) (k := 0) (v := _) rfl (by rfl) (fun wv hS => by obtain ⟨s0, s1, s2, s3, s4, s5⟩ := hS; go_simp; try with_reducible rfl) ?_)
      try simp only [Act.put, List.getElem_toArray, List.getElem_cons_zero, List.setIfInBounds_toArray, List.set_cons_zero, List.set_cons_succ]
      first | (refine Wk.skip (m := 9) (k := 1) rfl (by rfl) ?_) | (refine Wk.step (m := 9) (k := 1) (v := _) rfl (by rfl) (fun wv hS => by obtain ⟨s0, s1, s2, s3, s4, s5⟩ := hS; go_simp; try with_reducible rfl) ?_)
      try simp only [Act.put, List.getElem_toArray, List.getElem_cons_succ, List.getElem_cons_zero, List.setIfInBounds_toArray, List.set_cons_zero, List.set_cons_succ]
      refine Wk.call (m := 8) (k := 2) (v := .bool true) _ _ rfl (by rfl) (fun wv hS => by obtain ⟨s0, s1, s2, s3, s4, s5⟩ := hS; go_simp; first | done | exact ⟨rfl, rfl⟩ | with_reducible rfl) (fun wv hS => ?_) ?_; · obtain ⟨s0, s1, s2, s3, s4, s5⟩ := hS; refine (implWF a0 a1 n0 c0 n1 c1 B zl x0 x1 a n c B' zs wv (hl.mk (M0.trans s0) hB (.inr (Nat.le_refl _))) (Nat.le_trans hB (M0.trans s0).size) hn0 hn1 (h.mk (M0.trans s0) hB' (.inr (Nat.le_refl _))) (Nat.le_trans hB' (M0.trans s0).size) hn).mono ?_; rintro e w' ⟨he, mm⟩; exact ⟨by rw [he, HW.out], ⟨s0.trans mm, mm.cellAt s1, mm.cellAt s2, mm.cellAt s3, mm.cellAt s4, mm.cellAt s5⟩⟩
      try simp only [Act.put, List.getElem_toArray, List.getElem_cons_succ, List.getElem_cons_zero, List.setIfInBounds_toArray, List.set_cons_zero, List.set_cons_succ]
      first | (refine Wk.skip (m := 7) (k := 3) rfl (by rfl) ?_) | (refine Wk.step (m := 7) (k := 3) (v := _) rfl (by rfl) (fun wv hS => by obtain ⟨s0, s1, s2, s3, s4, s5⟩ := hS; go_simp; try with_reducible rfl) ?_)
      try simp only [Act.put, List.getElem_toArray, List.getElem_cons_succ, List.getElem_cons_zero, List.setIfInBounds_toArray, List.set_cons_zero, List.set_cons_succ]
      first | (refine Wk.skip (m := 6) (k := 4) rfl (by rfl) ?_) | (refine Wk.step (m := 6) (k := 4) (v := _) rfl (by rfl) (fun wv hS => by obtain ⟨s0, s1, s2, s3, s4, s5⟩ := hS; go_simp; try with_reducible rfl) ?_)
      try simp only [Act.put, List.getElem_toArray, List.getElem_cons_succ, List.getElem_cons_zero, List.setIfInBounds_toArray, List.set_cons_zero, List.set_cons_succ]
      first | (refine Wk.skip (m := 5) (k := 5) rfl (by rfl) ?_) | (refine Wk.step (m := 5) (k := 5) (v := _) rfl (by rfl) (fun wv hS => by obtain ⟨s0, s1, s2, s3, s4, s5⟩ := hS; go_simp; try with_reducible rfl) ?_)
      try simp only [Act.put, List.getElem_toArray, List.getElem_cons_succ, List.getElem_cons_zero, List.setIfInBounds_toArray, List.set_cons_zero, List.set_cons_succ]
      first | (refine Wk.skip (m := 4) (k := 6) rfl (by rfl) ?_) | (refine Wk.step (m := 4) (k := 6) (v := _) rfl (by rfl) (fun wv hS => by obtain ⟨s0, s1, s2, s3, s4, s5⟩ := hS; go_simp; try with_reducible rfl) ?_)
      try simp only [Act.put, List.getElem_toArray, List.getElem_cons_succ, List.getElem_cons_zero, List.setIfInBounds_toArray, List.set_cons_zero, List.set_cons_succ]
      refine Wk.call (m := 3) (k := 7) (v := .int .i64 V) _ _ rfl (by rfl) (fun wv hS => by obtain ⟨s0, s1, s2, s3, s4, s5⟩ := hS; go_simp; first | done | exact ⟨rfl, rfl⟩ | with_reducible rfl) (fun wv hS => ?_) ?_; · obtain ⟨s0, s1, s2, s3, s4, s5⟩ := hS; refine (implFirst x0 x1 a n c B' zs wv (h.mk (M0.trans s0) hB' (.inr (Nat.le_refl _))) (Nat.le_trans hB' (M0.trans s0).size) hn).mono ?_; rintro e w' ⟨he, mm⟩; exact ⟨by rw [he, ← HV.out], ⟨s0.trans mm, mm.cellAt s1, mm.cellAt s2, mm.cellAt s3, mm.cellAt s4, mm.cellAt s5⟩⟩
      try simp only [Act.put, List.getElem_toArray, List.getElem_cons_succ, List.getElem_cons_zero, List.setIfInBounds_toArray, List.set_cons_zero, List.set_cons_succ]
      refine Wk.call (m := 2) (k := 8) (v := .bool true) _ _ rfl (by rfl) (fun wv hS => by obtain ⟨s0, s1, s2, s3, s4, s5⟩ := hS; go_simp; first | done | exact ⟨rfl, rfl⟩ | with_reducible rfl) (fun wv hS => ?_) ?_; · obtain ⟨s0, s1, s2, s3, s4, s5⟩ := hS; refine (implIsCore a0 a1 n0 c0 n1 c1 B zA V wv (hA.mk (M0.trans s0) hB (.inr (Nat.le_refl _))) (Nat.le_trans hB (M0.trans s0).size) hn0).mono ?_; rintro e w' ⟨he, mm⟩; exact ⟨by rw [he, HC.out], ⟨s0.trans mm, mm.cellAt s1, mm.cellAt s2, mm.cellAt s3, mm.cellAt s4, mm.cellAt s5⟩⟩
      try simp only [Act.put, List.getElem_toArray, List.getElem_cons_succ, List.getElem_cons_zero, List.setIfInBounds_toArray, List.set_cons_zero, List.set_cons_succ]
      first | (refine Wk.skip (m := 1) (k := 9) rfl (by rfl) ?_) | (refine Wk.step (m := 1) (k := 9) (v := _) rfl (by rfl) (fun wv hS => by obtain ⟨s0, s1, s2, s3, s4, s5⟩ := hS; go_simp; try with_reducible rfl) ?_)
      try simp only [Act.put, List.getElem_toArray, List.getElem_cons_succ, List.getElem_cons_zero, List.setIfInBounds_toArray, List.set_cons_zero, List.set_cons_succ]
      first | (refine Wk.skip (m := 0) (k := 10) rfl (by rfl) ?_) | (refine Wk.step (m := 0) (k := 10) (v := _) rfl (by rfl) (fun wv hS => by obtain ⟨s0, s1, s2, s3, s4, s5⟩ := hS; go_simp; try with_reducible rfl) ?_)
      try simp only [Act.put, List.getElem_toArray, List.getElem_cons_succ, List.getElem_cons_zero, List.setIfInBounds_toArray, List.set_cons_zero, List.set_cons_succ]
      refine Wk.done fun wE hE => ?_
      clear k0 k1 j0 j1 j2
      obtain ⟨mE, k0, k1, j0, j1, j2⟩ := hE
      have M1 := M0.trans mE
      go_wp2_with fail
      refine (implEgKinds a0 a1 n0 c0 n1 c1 B zl x0 x1 a n c B' zs _ (hl.mk M1 hB (.inr (Nat.le_refl _))) (Nat.le_trans hB M1.size) hn1 (h.mk M1 hB' (.inr (Nat.le_refl _))) (Nat.le_trans hB' M1.size) hn).mono ?_
      rintro e w2 ⟨A, N, C, rfl, hcC, oo, m2⟩
      have M2 := M1.trans m2
      have hul := egUp_len zl n1 zs n
      have hN := oo.1
      have hN8 : N ≤ 8 := by omega
      clear hN hul
      obtain ⟨L, hL⟩ : ∃ L, Hid (L = egUp zl n1 zs n) := ⟨_, Lib.hid rfl⟩
      rw [← hL.out] at oo HR
      go_wp2_with fail
      refine (implDrop 0 A N C w2.heap.size L _ oo.has (by omega) hcC).mono ?_
      rintro e w3 ⟨A2, N2, C2, rfl, rfl, h2, hnc2⟩
      obtain ⟨K, hK⟩ : ∃ K, Hid (K = L.dropWhile (· == 0)) := ⟨_, Lib.hid rfl⟩
      rw [← hK.out] at h2 HR
      have hN2 := h2.1
      have hN28 : N2 ≤ 8 := by have h1 := (List.dropWhile_sublist (· == (0 : Int)) (l := L)).length_le; rw [← hK.out] at h1; have h3 := oo.1; omega
      rcases Nat.eq_zero_or_pos N2 with h0 | h0
      · subst h0
        have HE := Lib.hid (show resI K = 0 by unfold resI; rw [hN2]; rfl)
        clear hN2
        go_wp2_with fail
        go_ret
        exact ⟨retI (by rw [HR.out, HE.out]), M2⟩
      · have g0 : ((N2 : Int) == 0) = false := by simp; omega
        have HK := Lib.hid hN2
        clear hN2
        cases h1 : K.all (· == 1)
        · cases h3 : K.all (· == 2)
          · have HA1 := Lib.hid (show allN (sameI 1 K) N2 = false by rw [← HK.out, all_allN]; exact h1)
            have HA2 := Lib.hid (show allN (sameI 2 K) N2 = false by rw [← HK.out, all_allN]; exact h3)
            have HE := Lib.hid (show resI K = 0 by unfold resI; rw [if_neg (by have := HK.out; omega), h1, h3]; rfl)
            clear h1 h3
            go_wp2_with fail
            refine (implAreAll 1 A2 N2 C2 w2.heap.size K _ h2 (by omega)).mono ?_
            rintro e w4 ⟨he, rfl⟩
            rw [HA1.out] at he
            subst he
            go_wp2_with fail
            refine (implAreAll 2 A2 N2 C2 w2.heap.size K _ h2 (by omega)).mono ?_
            rintro e w4 ⟨he, rfl⟩
            rw [HA2.out] at he
            subst he
            go_wp2_with fail
            go_ret
            exact ⟨retI (by rw [HR.out, HE.out]), M2⟩
          · have HA1 := Lib.hid (show allN (sameI 1 K) N2 = false by rw [← HK.out, all_allN]; exact h1)
            have HA2 := Lib.hid (show allN (sameI 2 K) N2 = true by rw [← HK.out, all_allN]; exact h3)
            have HE := Lib.hid (show resI K = 2 by unfold resI; rw [if_neg (by have := HK.out; omega), h1, h3]; rfl)
            clear h1 h3
            go_wp2_with fail
            refine (implAreAll 1 A2 N2 C2 w2.heap.size K _ h2 (by omega)).mono ?_
            rintro e w4 ⟨he, rfl⟩
            rw [HA1.out] at he
            subst he
            go_wp2_with fail
            refine (implAreAll 2 A2 N2 C2 w2.heap.size K _ h2 (by omega)).mono ?_
            rintro e w4 ⟨he, rfl⟩
            rw [HA2.out] at he
            subst he
            go_wp2_with fail
            go_ret
            exact ⟨retI (by rw [HR.out, HE.out]), M2⟩
        · have HA1 := Lib.hid (show allN (sameI 1 K) N2 = true by rw [← HK.out, all_allN]; exact h1)
          have HE := Lib.hid (show resI K = 1 by unfold resI; rw [if_neg (by have := HK.out; omega), h1]; rfl)
          clear h1
          go_wp2_with fail
          refine (implAreAll 1 A2 N2 C2 w2.heap.size K _ h2 (by omega)).mono ?_
          rintro e w4 ⟨he, rfl⟩
          rw [HA1.out] at he
          subst he
          go_wp2_with fail
          go_ret
          exact ⟨retI (by rw [HR.out, HE.out]), M2⟩

end Go.Proofs.YtdhdkhnefnbdgaaGreatDoor
namespace Go.Proofs.YtdhdkhnefnbdgaaGreatDoor
open Go.ChangeShapes Go.WideShapes Go.ChangeAt Go.RowKit
set_option linter.unusedVariables false
def kdUp (zl : List TLink) (n1 : Nat) (zs : List THop) (k : Nat) : Option Int := (egUp zl n1 zs k).foldl stK (some 0)
theorem kdUp_skip {zl : List TLink} {n1 : Nat} {zs : List THop} {k : Nat} (h : (zs.getD k default).eg = 0) : kdUp zl n1 zs (k + 1) = kdUp zl n1 zs k := by
  unfold kdUp
  rw [egUp]
  unfold egK
  rw [if_pos h, List.append_nil]
theorem kdUp_step {zl : List TLink} {n1 : Nat} {zs : List THop} {k : Nat} (h : (zs.getD k default).eg ≠ 0) : kdUp zl n1 zs (k + 1) = stK (kdUp zl n1 zs k) (kindOf zl (zs.getD k default).nd (zs.getD k default).eg n1) := by
  unfold kdUp
  rw [egUp]
  unfold egK
  rw [if_neg h, List.foldl_append]
  rfl
theorem kdUp_none {zl : List TLink} {n1 : Nat} {zs : List THop} {k : Nat} (h : kdUp zl n1 zs k = none) : ∀ n, k ≤ n → kdUp zl n1 zs n = none
  | 0, hn => by obtain rfl : k = 0 := by omega
                exact h
  | n + 1, hn => by
    by_cases e : k = n + 1
    · subst e; exact h
    · have := kdUp_none h n (by omega)
      by_cases h0 : (zs.getD n default).eg = 0
      · rw [kdUp_skip h0, this]
      · rw [kdUp_step h0, this]; rfl
theorem sgKd_wf {n0 : Nat} {zA : List TAS} {zl : List TLink} {n1 : Nat} {zs : List THop} {n : Nat} (hw : wfB n0 zl n1 zs n = true) (hc : coreB zA n0 (segFirst zs n) = true) : sgKd n0 zA zl n1 zs n = resS (kdUp zl n1 zs n) := by
  unfold sgKd kdUp
  rw [hw, hc, if_pos (by rfl), kd_same]
set_option maxRecDepth 100000 in
set_option maxHeartbeats 4000000 in
theorem specSgKind (a0 a1 : Option Addr) (n0 c0 n1 c1 B : Nat) (zA : List TAS) (zl : List TLink) (x0 x1 : Int) (a : Option Addr) (n c B' : Nat) (zs : List THop) (w : World) (hA : HasAS w B a0 n0 zA) (hl : HasLink w B a1 n1 zl) (hB : B ≤ w.heap.size) (hn0 : n0 ≤ 1048576) (hn1 : n1 ≤ 1048576) (h : HasHop w B' a n zs) (hB' : B' ≤ w.heap.size) (hn : n ≤ 1048576) :
    Calls Tryz.prog 49 #[.agg #[.slice a0 n0 c0, .slice a1 n1 c1], .agg #[.int .i64 x0, .int .i64 x1, .slice a n c]] w fun e w' => e = .returned (.int .i64 (sgKd n0 zA zl n1 zs n)) ∧ Mk0 w w' := by
  have M0 := (Mk.alloc w (Obj.cells #[Value.slice a0 n0 c0, Value.slice a1 n1 c1] 35)).new (Obj.cells #[Value.int .i64 x0, Value.int .i64 x1, Value.slice a n c] 39)
  have k0 : ((w.alloc (Obj.cells #[Value.slice a0 n0 c0, Value.slice a1 n1 c1] 35)).alloc (Obj.cells #[Value.int .i64 x0, Value.int .i64 x1, Value.slice a n c] 39)).cell? ⟨w.heap.size, 0, none⟩ = some (.slice a0 n0 c0) := by simp [go_sem]
  have k1 : ((w.alloc (Obj.cells #[Value.slice a0 n0 c0, Value.slice a1 n1 c1] 35)).alloc (Obj.cells #[Value.int .i64 x0, Value.int .i64 x1, Value.slice a n c] 39)).cell? ⟨w.heap.size, 1, none⟩ = some (.slice a1 n1 c1) := by simp [go_sem]
  have j0 : ((w.alloc (Obj.cells #[Value.slice a0 n0 c0, Value.slice a1 n1 c1] 35)).alloc (Obj.cells #[Value.int .i64 x0, Value.int .i64 x1, Value.slice a n c] 39)).cell? ⟨w.heap.size + 1, 0, none⟩ = some (.int .i64 x0) := by simp [go_sem]
  have j1 : ((w.alloc (Obj.cells #[Value.slice a0 n0 c0, Value.slice a1 n1 c1] 35)).alloc (Obj.cells #[Value.int .i64 x0, Value.int .i64 x1, Value.slice a n c] 39)).cell? ⟨w.heap.size + 1, 1, none⟩ = some (.int .i64 x1) := by simp [go_sem]
  have j2 : ((w.alloc (Obj.cells #[Value.slice a0 n0 c0, Value.slice a1 n1 c1] 35)).alloc (Obj.cells #[Value.int .i64 x0, Value.int .i64 x1, Value.slice a n c] 39)).cell? ⟨w.heap.size + 1, 2, none⟩ = some (.slice a n c) := by simp [go_sem]
  cases hw : wfB n0 zl n1 zs n
  · have HR := Lib.hid (show sgKd n0 zA zl n1 zs n = 0 by unfold sgKd; rw [hw]; rfl)
    have HW := Lib.hid hw
    clear hw
    go_enter Tryz.func49, Tryz.ntmps49
    go_wp2_with fail
    refine wp_region_wk (fun w' => Mk0 ((w.alloc (Obj.cells #[Value.slice a0 n0 c0, Value.slice a1 n1 c1] 35)).alloc (Obj.cells #[Value.int .i64 x0, Value.int .i64 x1, Value.slice a n c] 39)) w' ∧ w'.cell? ⟨w.heap.size, 0, none⟩ = some (.slice a0 n0 c0) ∧ w'.cell? ⟨w.heap.size, 1, none⟩ = some (.slice a1 n1 c1) ∧ w'.cell? ⟨w.heap.size + 1, 0, none⟩ = some (.int .i64 x0) ∧ w'.cell? ⟨w.heap.size + 1, 1, none⟩ = some (.int .i64 x1) ∧ w'.cell? ⟨w.heap.size + 1, 2, none⟩ = some (.slice a n c)) (by kernel_rfl) (by kernel_rfl) (⟨Mk.drew1 _, k0, k1, j0, j1, j2⟩) ?_
    change Wk _ _ _ _ 14 0 _
    first | (refine Wk.skip (m := 13) (k := 0) rfl (by rfl) ?_) | (refine Wk.step (m := 13) (k := 0) (v := _) rfl (by rfl) (fun wv hS => by obtain ⟨s0, s1, s2, s3, s4, s5⟩ := hS; go_simp; try with_reducible rfl) ?_)
    try simp only [Act.put, List.getElem_toArray, List.getElem_cons_zero, List.setIfInBounds_toArray, List.set_cons_zero, List.set_cons_succ]
    first | (refine Wk.skip (m := 12) (k := 1) rfl (by rfl) ?_) | (refine Wk.step (m := 12) (k := 1) (v := _) rfl (by rfl) (fun wv hS => by obtain ⟨s0, s1, s2, s3, s4, s5⟩ := hS; go_simp; try with_reducible rfl) ?_)
    try simp only [Act.put, List.getElem_toArray, List.getElem_cons_succ, List.getElem_cons_zero, List.setIfInBounds_toArray, List.set_cons_zero, List.set_cons_succ]
    refine Wk.call (m := 11) (k := 2) (v := .bool false) _ _ rfl (by rfl) (fun wv hS => by obtain ⟨s0, s1, s2, s3, s4, s5⟩ := hS; go_simp; first | done | exact ⟨rfl, rfl⟩ | with_reducible rfl) (fun wv hS => ?_) ?_; · obtain ⟨s0, s1, s2, s3, s4, s5⟩ := hS; refine (specWF a0 a1 n0 c0 n1 c1 B zl x0 x1 a n c B' zs wv (hl.mk (M0.trans s0) hB (.inr (Nat.le_refl _))) (Nat.le_trans hB (M0.trans s0).size) hn0 hn1 (h.mk (M0.trans s0) hB' (.inr (Nat.le_refl _))) (Nat.le_trans hB' (M0.trans s0).size) hn).mono ?_; rintro e w' ⟨he, mm⟩; exact ⟨by rw [he, HW.out], ⟨s0.trans mm, mm.cellAt s1, mm.cellAt s2, mm.cellAt s3, mm.cellAt s4, mm.cellAt s5⟩⟩
    try simp only [Act.put, List.getElem_toArray, List.getElem_cons_succ, List.getElem_cons_zero, List.setIfInBounds_toArray, List.set_cons_zero, List.set_cons_succ]
    first | (refine Wk.skip (m := 10) (k := 3) rfl (by rfl) ?_) | (refine Wk.step (m := 10) (k := 3) (v := _) rfl (by rfl) (fun wv hS => by obtain ⟨s0, s1, s2, s3, s4, s5⟩ := hS; go_simp; try with_reducible rfl) ?_)
    try simp only [Act.put, List.getElem_toArray, List.getElem_cons_succ, List.getElem_cons_zero, List.setIfInBounds_toArray, List.set_cons_zero, List.set_cons_succ]
    first | (refine Wk.skip (m := 9) (k := 4) rfl (by rfl) ?_) | (refine Wk.step (m := 9) (k := 4) (v := _) rfl (by rfl) (fun wv hS => by obtain ⟨s0, s1, s2, s3, s4, s5⟩ := hS; go_simp; try with_reducible rfl) ?_)
    try simp only [Act.put, List.getElem_toArray, List.getElem_cons_succ, List.getElem_cons_zero, List.setIfInBounds_toArray, List.set_cons_zero, List.set_cons_succ]
    first | (refine Wk.skip (m := 8) (k := 5) rfl (by rfl) ?_) | (refine Wk.step (m := 8) (k := 5) (v := _) rfl (by rfl) (fun wv hS => by obtain ⟨s0, s1, s2, s3, s4, s5⟩ := hS; go_simp; try with_reducible rfl) ?_)
    try simp only [Act.put, List.getElem_toArray, List.getElem_cons_succ, List.getElem_cons_zero, List.setIfInBounds_toArray, List.set_cons_zero, List.set_cons_succ]
    first | (refine Wk.skip (m := 7) (k := 6) rfl (by rfl) ?_) | (refine Wk.step (m := 7) (k := 6) (v := _) rfl (by rfl) (fun wv hS => by obtain ⟨s0, s1, s2, s3, s4, s5⟩ := hS; go_simp; try with_reducible rfl) ?_)
    try simp only [Act.put, List.getElem_toArray, List.getElem_cons_succ, List.getElem_cons_zero, List.setIfInBounds_toArray, List.set_cons_zero, List.set_cons_succ]
    first | (refine Wk.skip (m := 6) (k := 7) rfl (by rfl) ?_) | (refine Wk.step (m := 6) (k := 7) (v := _) rfl (by rfl) (fun wv hS => by obtain ⟨s0, s1, s2, s3, s4, s5⟩ := hS; go_simp; try with_reducible rfl) ?_)
    try simp only [Act.put, List.getElem_toArray, List.getElem_cons_succ, List.getElem_cons_zero, List.setIfInBounds_toArray, List.set_cons_zero, List.set_cons_succ]
    refine Wk.skip (m := 5) (k := 8) rfl (by rfl) ?_
    try simp only [Act.put, List.getElem_toArray, List.getElem_cons_succ, List.getElem_cons_zero, List.setIfInBounds_toArray, List.set_cons_zero, List.set_cons_succ]
    first | (refine Wk.skip (m := 4) (k := 9) rfl (by rfl) ?_) | (refine Wk.step (m := 4) (k := 9) (v := _) rfl (by rfl) (fun wv hS => by obtain ⟨s0, s1, s2, s3, s4, s5⟩ := hS; go_simp; try with_reducible rfl) ?_)
    try simp only [Act.put, List.getElem_toArray, List.getElem_cons_succ, List.getElem_cons_zero, List.setIfInBounds_toArray, List.set_cons_zero, List.set_cons_succ]
    first | (refine Wk.skip (m := 3) (k := 10) rfl (by rfl) ?_) | (refine Wk.step (m := 3) (k := 10) (v := _) rfl (by rfl) (fun wv hS => by obtain ⟨s0, s1, s2, s3, s4, s5⟩ := hS; go_simp; try with_reducible rfl) ?_)
    try simp only [Act.put, List.getElem_toArray, List.getElem_cons_succ, List.getElem_cons_zero, List.setIfInBounds_toArray, List.set_cons_zero, List.set_cons_succ]
    first | (refine Wk.skip (m := 2) (k := 11) rfl (by rfl) ?_) | (refine Wk.step (m := 2) (k := 11) (v := _) rfl (by rfl) (fun wv hS => by obtain ⟨s0, s1, s2, s3, s4, s5⟩ := hS; go_simp; try with_reducible rfl) ?_)
    try simp only [Act.put, List.getElem_toArray, List.getElem_cons_succ, List.getElem_cons_zero, List.setIfInBounds_toArray, List.set_cons_zero, List.set_cons_succ]
    first | (refine Wk.skip (m := 1) (k := 12) rfl (by rfl) ?_) | (refine Wk.step (m := 1) (k := 12) (v := _) rfl (by rfl) (fun wv hS => by obtain ⟨s0, s1, s2, s3, s4, s5⟩ := hS; go_simp; try with_reducible rfl) ?_)
    try simp only [Act.put, List.getElem_toArray, List.getElem_cons_succ, List.getElem_cons_zero, List.setIfInBounds_toArray, List.set_cons_zero, List.set_cons_succ]
    first | (refine Wk.skip (m := 0) (k := 13) rfl (by rfl) ?_) | (refine Wk.step (m := 0) (k := 13) (v := _) rfl (by rfl) (fun wv hS => by obtain ⟨s0, s1, s2, s3, s4, s5⟩ := hS; go_simp; try with_reducible rfl) ?_)
    try simp only [Act.put, List.getElem_toArray, List.getElem_cons_succ, List.getElem_cons_zero, List.setIfInBounds_toArray, List.set_cons_zero, List.set_cons_succ]
    refine Wk.done fun wE hE => ?_
    clear k0 k1 j0 j1 j2
    obtain ⟨mE, k0, k1, j0, j1, j2⟩ := hE
    go_wp2_with fail
    go_ret
    exact ⟨retI HR.out.symm, M0.trans mE⟩
  · have hnn := wfB_n hw
    have hq := of_decide_eq_true (show decide (0 ≤ segFirst zs n ∧ segFirst zs n < (n0 : Int)) = true from wfB_first hw)
    obtain ⟨q, hqr⟩ : ∃ q : Nat, Hid ((q : Int) = segFirst zs n) := ⟨(segFirst zs n).toNat, by show ((segFirst zs n).toNat : Int) = segFirst zs n; omega⟩
    have HV := Lib.hid hqr.out.symm
    have hqn : q < n0 := by have := hqr.out; omega
    obtain ⟨b, o, y, rfl, hb, hy, d0, d1, d2⟩ := HasAS.at _ _ _ _ _ _ (hA.mk M0 hB (.inr (Nat.le_refl _))) hqn
    have hcore : coreB zA n0 (segFirst zs n) = y.core := by unfold coreB; rw [wfB_first hw, HV.out, hy.out]; simp
    have i1 : (0 : Int) ≤ (q : Int) := by omega
    have i2 : (q : Int) < (n0 : Int) := by omega
    clear hq d0 d2
    cases hc : y.core
    · rw [hc] at d1
      have HW := Lib.hid hw
      have HR := Lib.hid (show sgKd n0 zA zl n1 zs n = 0 by unfold sgKd; rw [hw, hcore, hc]; rfl)
      clear hw hcore hc hy hqr
      go_enter Tryz.func49, Tryz.ntmps49
      go_wp2_with fail
      refine wp_region_wk (fun w' => Mk0 ((w.alloc (Obj.cells #[Value.slice (some ⟨b, o, none⟩) n0 c0, Value.slice a1 n1 c1] 35)).alloc (Obj.cells #[Value.int .i64 x0, Value.int .i64 x1, Value.slice a n c] 39)) w' ∧ w'.cell? ⟨w.heap.size, 0, none⟩ = some (.slice (some ⟨b, o, none⟩) n0 c0) ∧ w'.cell? ⟨w.heap.size, 1, none⟩ = some (.slice a1 n1 c1) ∧ w'.cell? ⟨w.heap.size + 1, 0, none⟩ = some (.int .i64 x0) ∧ w'.cell? ⟨w.heap.size + 1, 1, none⟩ = some (.int .i64 x1) ∧ w'.cell? ⟨w.heap.size + 1, 2, none⟩ = some (.slice a n c) ∧ w'.cell? ⟨b, o + q * 3 + 1, none⟩ = some (.bool false)) (by kernel_rfl) (by kernel_rfl) (⟨Mk.drew1 _, k0, k1, j0, j1, j2, d1⟩) ?_
      change Wk _ _ _ _ 14 0 _
      first | (refine Wk.skip (m := 13) (k := 0) rfl (by rfl) ?_) | (refine Wk.step (m := 13) (k := 0) (v := _) rfl (by rfl) (fun wv hS => by obtain ⟨s0, s1, s2, s3, s4, s5, s6⟩ := hS; go_simp; try with_reducible rfl) ?_)
      try simp only [Act.put, List.getElem_toArray, List.getElem_cons_zero, List.setIfInBounds_toArray, List.set_cons_zero, List.set_cons_succ]
      first | (refine Wk.skip (m := 12) (k := 1) rfl (by rfl) ?_) | (refine Wk.step (m := 12) (k := 1) (v := _) rfl (by rfl) (fun wv hS => by obtain ⟨s0, s1, s2, s3, s4, s5, s6⟩ := hS; go_simp; try with_reducible rfl) ?_)
      try simp only [Act.put, List.getElem_toArray, List.getElem_cons_succ, List.getElem_cons_zero, List.setIfInBounds_toArray, List.set_cons_zero, List.set_cons_succ]
      refine Wk.call (m := 11) (k := 2) (v := .bool true) _ _ rfl (by rfl) (fun wv hS => by obtain ⟨s0, s1, s2, s3, s4, s5, s6⟩ := hS; go_simp; first | done | exact ⟨rfl, rfl⟩ | with_reducible rfl) (fun wv hS => ?_) ?_; · obtain ⟨s0, s1, s2, s3, s4, s5, s6⟩ := hS; refine (specWF (some ⟨b, o, none⟩) a1 n0 c0 n1 c1 B zl x0 x1 a n c B' zs wv (hl.mk (M0.trans s0) hB (.inr (Nat.le_refl _))) (Nat.le_trans hB (M0.trans s0).size) hn0 hn1 (h.mk (M0.trans s0) hB' (.inr (Nat.le_refl _))) (Nat.le_trans hB' (M0.trans s0).size) hn).mono ?_; rintro e w' ⟨he, mm⟩; exact ⟨by rw [he, HW.out], ⟨s0.trans mm, mm.cellAt s1, mm.cellAt s2, mm.cellAt s3, mm.cellAt s4, mm.cellAt s5, mm.cellAt s6⟩⟩
      try simp only [Act.put, List.getElem_toArray, List.getElem_cons_succ, List.getElem_cons_zero, List.setIfInBounds_toArray, List.set_cons_zero, List.set_cons_succ]
      first | (refine Wk.skip (m := 10) (k := 3) rfl (by rfl) ?_) | (refine Wk.step (m := 10) (k := 3) (v := _) rfl (by rfl) (fun wv hS => by obtain ⟨s0, s1, s2, s3, s4, s5, s6⟩ := hS; go_simp; try with_reducible rfl) ?_)
      try simp only [Act.put, List.getElem_toArray, List.getElem_cons_succ, List.getElem_cons_zero, List.setIfInBounds_toArray, List.set_cons_zero, List.set_cons_succ]
      first | (refine Wk.skip (m := 9) (k := 4) rfl (by rfl) ?_) | (refine Wk.step (m := 9) (k := 4) (v := _) rfl (by rfl) (fun wv hS => by obtain ⟨s0, s1, s2, s3, s4, s5, s6⟩ := hS; go_simp; try with_reducible rfl) ?_)
      try simp only [Act.put, List.getElem_toArray, List.getElem_cons_succ, List.getElem_cons_zero, List.setIfInBounds_toArray, List.set_cons_zero, List.set_cons_succ]
      first | (refine Wk.skip (m := 8) (k := 5) rfl (by rfl) ?_) | (refine Wk.step (m := 8) (k := 5) (v := _) rfl (by rfl) (fun wv hS => by obtain ⟨s0, s1, s2, s3, s4, s5, s6⟩ := hS; go_simp; try with_reducible rfl) ?_)
      try simp only [Act.put, List.getElem_toArray, List.getElem_cons_succ, List.getElem_cons_zero, List.setIfInBounds_toArray, List.set_cons_zero, List.set_cons_succ]
      first | (refine Wk.skip (m := 7) (k := 6) rfl (by rfl) ?_) | (refine Wk.step (m := 7) (k := 6) (v := _) rfl (by rfl) (fun wv hS => by obtain ⟨s0, s1, s2, s3, s4, s5, s6⟩ := hS; go_simp; try with_reducible rfl) ?_)
      try simp only [Act.put, List.getElem_toArray, List.getElem_cons_succ, List.getElem_cons_zero, List.setIfInBounds_toArray, List.set_cons_zero, List.set_cons_succ]
      first | (refine Wk.skip (m := 6) (k := 7) rfl (by rfl) ?_) | (refine Wk.step (m := 6) (k := 7) (v := _) rfl (by rfl) (fun wv hS => by obtain ⟨s0, s1, s2, s3, s4, s5, s6⟩ := hS; go_simp; try with_reducible rfl) ?_)
      try simp only [Act.put, List.getElem_toArray, List.getElem_cons_succ, List.getElem_cons_zero, List.setIfInBounds_toArray, List.set_cons_zero, List.set_cons_succ]
      refine Wk.call (m := 5) (k := 8) (v := .int .i64 (q : Int)) _ _ rfl (by rfl) (fun wv hS => by obtain ⟨s0, s1, s2, s3, s4, s5, s6⟩ := hS; go_simp; first | done | exact ⟨rfl, rfl⟩ | with_reducible rfl) (fun wv hS => ?_) ?_; · obtain ⟨s0, s1, s2, s3, s4, s5, s6⟩ := hS; refine (specFirst x0 x1 a n c B' zs wv (h.mk (M0.trans s0) hB' (.inr (Nat.le_refl _))) (Nat.le_trans hB' (M0.trans s0).size) hn).mono ?_; rintro e w' ⟨he, mm⟩; exact ⟨by rw [he, HV.out], ⟨s0.trans mm, mm.cellAt s1, mm.cellAt s2, mm.cellAt s3, mm.cellAt s4, mm.cellAt s5, mm.cellAt s6⟩⟩
      try simp only [Act.put, List.getElem_toArray, List.getElem_cons_succ, List.getElem_cons_zero, List.setIfInBounds_toArray, List.set_cons_zero, List.set_cons_succ]
      first | (refine Wk.skip (m := 4) (k := 9) rfl (by rfl) ?_) | (refine Wk.step (m := 4) (k := 9) (v := _) rfl (by rfl) (fun wv hS => by obtain ⟨s0, s1, s2, s3, s4, s5, s6⟩ := hS; go_simp; try with_reducible rfl) ?_)
      try simp only [Act.put, List.getElem_toArray, List.getElem_cons_succ, List.getElem_cons_zero, List.setIfInBounds_toArray, List.set_cons_zero, List.set_cons_succ]
      first | (refine Wk.skip (m := 3) (k := 10) rfl (by rfl) ?_) | (refine Wk.step (m := 3) (k := 10) (v := _) rfl (by rfl) (fun wv hS => by obtain ⟨s0, s1, s2, s3, s4, s5, s6⟩ := hS; go_simp; try with_reducible rfl) ?_)
      try simp only [Act.put, List.getElem_toArray, List.getElem_cons_succ, List.getElem_cons_zero, List.setIfInBounds_toArray, List.set_cons_zero, List.set_cons_succ]
      first | (refine Wk.skip (m := 2) (k := 11) rfl (by rfl) ?_) | (refine Wk.step (m := 2) (k := 11) (v := _) rfl (by rfl) (fun wv hS => by obtain ⟨s0, s1, s2, s3, s4, s5, s6⟩ := hS; go_simp; try with_reducible rfl) ?_)
      try simp only [Act.put, List.getElem_toArray, List.getElem_cons_succ, List.getElem_cons_zero, List.setIfInBounds_toArray, List.set_cons_zero, List.set_cons_succ]
      first | (refine Wk.skip (m := 1) (k := 12) rfl (by rfl) ?_) | (refine Wk.step (m := 1) (k := 12) (v := _) rfl (by rfl) (fun wv hS => by obtain ⟨s0, s1, s2, s3, s4, s5, s6⟩ := hS; go_simp; try with_reducible rfl) ?_)
      try simp only [Act.put, List.getElem_toArray, List.getElem_cons_succ, List.getElem_cons_zero, List.setIfInBounds_toArray, List.set_cons_zero, List.set_cons_succ]
      first | (refine Wk.skip (m := 0) (k := 13) rfl (by rfl) ?_) | (refine Wk.step (m := 0) (k := 13) (v := _) rfl (by rfl) (fun wv hS => by obtain ⟨s0, s1, s2, s3, s4, s5, s6⟩ := hS; go_simp; try with_reducible rfl) ?_)
      try simp only [Act.put, List.getElem_toArray, List.getElem_cons_succ, List.getElem_cons_zero, List.setIfInBounds_toArray, List.set_cons_zero, List.set_cons_succ]
      refine Wk.done fun wE hE => ?_
      clear k0 k1 j0 j1 j2 d1
      obtain ⟨mE, k0, k1, j0, j1, j2, d1⟩ := hE
      go_wp2_with fail
      go_ret
      exact ⟨retI HR.out.symm, M0.trans mE⟩
    · rw [hc] at d1
      have HW := Lib.hid hw
      have HR := Lib.hid (sgKd_wf (zA := zA) hw (hcore.trans hc))
      clear hw hcore hc hy hqr
      go_enter Tryz.func49, Tryz.ntmps49
      go_wp2_with fail
      refine wp_region_wk (fun w' => Mk0 ((w.alloc (Obj.cells #[Value.slice (some ⟨b, o, none⟩) n0 c0, Value.slice a1 n1 c1] 35)).alloc (Obj.cells #[Value.int .i64 x0, Value.int .i64 x1, Value.slice a n c] 39)) w' ∧ w'.cell? ⟨w.heap.size, 0, none⟩ = some (.slice (some ⟨b, o, none⟩) n0 c0) ∧ w'.cell? ⟨w.heap.size, 1, none⟩ = some (.slice a1 n1 c1) ∧ w'.cell? ⟨w.heap.size + 1, 0, none⟩ = some (.int .i64 x0) ∧ w'.cell? ⟨w.heap.size + 1, 1, none⟩ = some (.int .i64 x1) ∧ w'.cell? ⟨w.heap.size + 1, 2, none⟩ = some (.slice a n c) ∧ w'.cell? ⟨b, o + q * 3 + 1, none⟩ = some (.bool true)) (by kernel_rfl) (by kernel_rfl) (⟨Mk.drew1 _, k0, k1, j0, j1, j2, d1⟩) ?_
      change Wk _ _ _ _ 14 0 _
      first | (refine Wk.skip (m := 13) (k := 0) rfl (by rfl) ?_) | (refine Wk.step (m := 13) (k := 0) (v := _) rfl (by rfl) (fun wv hS => by obtain ⟨s0, s1, s2, s3, s4, s5, s6⟩ := hS; go_simp; try with_reducible rfl) ?_)
      try simp only [Act.put, List.getElem_toArray, List.getElem_cons_zero, List.setIfInBounds_toArray, List.set_cons_zero, List.set_cons_succ]
      first | (refine Wk.skip (m := 12) (k := 1) rfl (by rfl) ?_) | (refine Wk.step (m := 12) (k := 1) (v := _) rfl (by rfl) (fun wv hS => by obtain ⟨s0, s1, s2, s3, s4, s5, s6⟩ := hS; go_simp; try with_reducible rfl) ?_)
      try simp only [Act.put, List.getElem_toArray, List.getElem_cons_succ, List.getElem_cons_zero, List.setIfInBounds_toArray, List.set_cons_zero, List.set_cons_succ]
      refine Wk.call (m := 11) (k := 2) (v := .bool true) _ _ rfl (by rfl) (fun wv hS => by obtain ⟨s0, s1, s2, s3, s4, s5, s6⟩ := hS; go_simp; first | done | exact ⟨rfl, rfl⟩ | with_reducible rfl) (fun wv hS => ?_) ?_; · obtain ⟨s0, s1, s2, s3, s4, s5, s6⟩ := hS; refine (specWF (some ⟨b, o, none⟩) a1 n0 c0 n1 c1 B zl x0 x1 a n c B' zs wv (hl.mk (M0.trans s0) hB (.inr (Nat.le_refl _))) (Nat.le_trans hB (M0.trans s0).size) hn0 hn1 (h.mk (M0.trans s0) hB' (.inr (Nat.le_refl _))) (Nat.le_trans hB' (M0.trans s0).size) hn).mono ?_; rintro e w' ⟨he, mm⟩; exact ⟨by rw [he, HW.out], ⟨s0.trans mm, mm.cellAt s1, mm.cellAt s2, mm.cellAt s3, mm.cellAt s4, mm.cellAt s5, mm.cellAt s6⟩⟩
      try simp only [Act.put, List.getElem_toArray, List.getElem_cons_succ, List.getElem_cons_zero, List.setIfInBounds_toArray, List.set_cons_zero, List.set_cons_succ]
      first | (refine Wk.skip (m := 10) (k := 3) rfl (by rfl) ?_) | (refine Wk.step (m := 10) (k := 3) (v := _) rfl (by rfl) (fun wv hS => by obtain ⟨s0, s1, s2, s3, s4, s5, s6⟩ := hS; go_simp; try with_reducible rfl) ?_)
      try simp only [Act.put, List.getElem_toArray, List.getElem_cons_succ, List.getElem_cons_zero, List.setIfInBounds_toArray, List.set_cons_zero, List.set_cons_succ]
      first | (refine Wk.skip (m := 9) (k := 4) rfl (by rfl) ?_) | (refine Wk.step (m := 9) (k := 4) (v := _) rfl (by rfl) (fun wv hS => by obtain ⟨s0, s1, s2, s3, s4, s5, s6⟩ := hS; go_simp; try with_reducible rfl) ?_)
      try simp only [Act.put, List.getElem_toArray, List.getElem_cons_succ, List.getElem_cons_zero, List.setIfInBounds_toArray, List.set_cons_zero, List.set_cons_succ]
      first | (refine Wk.skip (m := 8) (k := 5) rfl (by rfl) ?_) | (refine Wk.step (m := 8) (k := 5) (v := _) rfl (by rfl) (fun wv hS => by obtain ⟨s0, s1, s2, s3, s4, s5, s6⟩ := hS; go_simp; try with_reducible rfl) ?_)
      try simp only [Act.put, List.getElem_toArray, List.getElem_cons_succ, List.getElem_cons_zero, List.setIfInBounds_toArray, List.set_cons_zero, List.set_cons_succ]
      first | (refine Wk.skip (m := 7) (k := 6) rfl (by rfl) ?_) | (refine Wk.step (m := 7) (k := 6) (v := _) rfl (by rfl) (fun wv hS => by obtain ⟨s0, s1, s2, s3, s4, s5, s6⟩ := hS; go_simp; try with_reducible rfl) ?_)
      try simp only [Act.put, List.getElem_toArray, List.getElem_cons_succ, List.getElem_cons_zero, List.setIfInBounds_toArray, List.set_cons_zero, List.set_cons_succ]
      first | (refine Wk.skip (m := 6) (k := 7) rfl (by rfl) ?_) | (refine Wk.step (m := 6) (k := 7) (v := _) rfl (by rfl) (fun wv hS => by obtain ⟨s0, s1, s2, s3, s4, s5, s6⟩ := hS; go_simp; try with_reducible rfl) ?_)
      try simp only [Act.put, List.getElem_toArray, List.getElem_cons_succ, List.getElem_cons_zero, List.setIfInBounds_toArray, List.set_cons_zero, List.set_cons_succ]
      refine Wk.call (m := 5) (k := 8) (v := .int .i64 (q : Int)) _ _ rfl (by rfl) (fun wv hS => by obtain ⟨s0, s1, s2, s3, s4, s5, s6⟩ := hS; go_simp; first | done | exact ⟨rfl, rfl⟩ | with_reducible rfl) (fun wv hS => ?_) ?_; · obtain ⟨s0, s1, s2, s3, s4, s5, s6⟩ := hS; refine (specFirst x0 x1 a n c B' zs wv (h.mk (M0.trans s0) hB' (.inr (Nat.le_refl _))) (Nat.le_trans hB' (M0.trans s0).size) hn).mono ?_; rintro e w' ⟨he, mm⟩; exact ⟨by rw [he, HV.out], ⟨s0.trans mm, mm.cellAt s1, mm.cellAt s2, mm.cellAt s3, mm.cellAt s4, mm.cellAt s5, mm.cellAt s6⟩⟩
      try simp only [Act.put, List.getElem_toArray, List.getElem_cons_succ, List.getElem_cons_zero, List.setIfInBounds_toArray, List.set_cons_zero, List.set_cons_succ]
      first | (refine Wk.skip (m := 4) (k := 9) rfl (by rfl) ?_) | (refine Wk.step (m := 4) (k := 9) (v := _) rfl (by rfl) (fun wv hS => by obtain ⟨s0, s1, s2, s3, s4, s5, s6⟩ := hS; go_simp; try with_reducible rfl) ?_)
      try simp only [Act.put, List.getElem_toArray, List.getElem_cons_succ, List.getElem_cons_zero, List.setIfInBounds_toArray, List.set_cons_zero, List.set_cons_succ]
      first | (refine Wk.skip (m := 3) (k := 10) rfl (by rfl) ?_) | (refine Wk.step (m := 3) (k := 10) (v := _) rfl (by rfl) (fun wv hS => by obtain ⟨s0, s1, s2, s3, s4, s5, s6⟩ := hS; go_simp; try with_reducible rfl) ?_)
      try simp only [Act.put, List.getElem_toArray, List.getElem_cons_succ, List.getElem_cons_zero, List.setIfInBounds_toArray, List.set_cons_zero, List.set_cons_succ]
      first | (refine Wk.skip (m := 2) (k := 11) rfl (by rfl) ?_) | (refine Wk.step (m := 2) (k := 11) (v := _) rfl (by rfl) (fun wv hS => by obtain ⟨s0, s1, s2, s3, s4, s5, s6⟩ := hS; go_simp; try with_reducible rfl) ?_)
      try simp only [Act.put, List.getElem_toArray, List.getElem_cons_succ, List.getElem_cons_zero, List.setIfInBounds_toArray, List.set_cons_zero, List.set_cons_succ]
      first | (refine Wk.skip (m := 1) (k := 12) rfl (by rfl) ?_) | (refine Wk.step (m := 1) (k := 12) (v := _) rfl (by rfl) (fun wv hS => by obtain ⟨s0, s1, s2, s3, s4, s5, s6⟩ := hS; go_simp; try with_reducible rfl) ?_)
      try simp only [Act.put, List.getElem_toArray, List.getElem_cons_succ, List.getElem_cons_zero, List.setIfInBounds_toArray, List.set_cons_zero, List.set_cons_succ]
      first | (refine Wk.skip (m := 0) (k := 13) rfl (by rfl) ?_) | (refine Wk.step (m := 0) (k := 13) (v := _) rfl (by rfl) (fun wv hS => by obtain ⟨s0, s1, s2, s3, s4, s5, s6⟩ := hS; go_simp; try with_reducible rfl) ?_)
      try simp only [Act.put, List.getElem_toArray, List.getElem_cons_succ, List.getElem_cons_zero, List.setIfInBounds_toArray, List.set_cons_zero, List.set_cons_succ]
      refine Wk.done fun wE hE => ?_
      clear k0 k1 j0 j1 j2 d1
      obtain ⟨mE, k0, k1, j0, j1, j2, d1⟩ := hE
      have M1 := M0.trans mE
      clear d1
      go_wp2_with fail
      go_loopw [4, 5, 6] (fun r v i wr => r = .int .i64 0 ∧ ∃ (k : Nat) (κ : Int), k ≤ n ∧ i = .int .i64 k ∧ v = .int .i64 κ ∧ Hid (kdUp zl n1 zs k = some κ) ∧ Mk0 wE wr) (fun _ _ i _ => n - (intOf i).toNat)
      case atStart => exact ⟨rfl, 0, 0, Nat.zero_le _, rfl, rfl, rfl, Mk.refl _ _ _⟩
      case round =>
        obtain ⟨rfl, k, κ, hk, rfl, rfl, hS, hM⟩ := hrel
        replace k0 := hM.cellAt k0
        replace k1 := hM.cellAt k1
        replace j2 := hM.cellAt j2
        have hM' := M1.trans hM
        clear j0 j1
        by_cases hlt : k < n
        · obtain ⟨b2, off, x, rfl, hb2, hx, d0, d1, d2, d3, d4⟩ := HasHop.at _ _ _ _ _ _ (h.mk hM' hB' (.inr (Nat.le_refl _))) hlt
          clear d1 d3 d4
          have hbr := World.block_lt_of_cell? _ _ d0
          have hbj := World.block_lt_of_cell? _ _ j2
          simp only at hbr hbj
          have i3 : (0 : Int) ≤ (k : Int) := by omega
          have i4 : (k : Int) < (n : Int) := by omega
          cases e : (x.eg == 0)
          · have hstep := kdUp_step (zl := zl) (n1 := n1) (zs := zs) (k := k) (by rw [← hx.out]; simpa using e)
            obtain ⟨V, hV⟩ : ∃ V, Hid (V = kindOf zl x.nd x.eg n1) := ⟨_, Lib.hid rfl⟩
            rw [← hx.out, ← hV.out, hS.out] at hstep
            cases e0 : (κ == 0)
            · have f0 : (κ != 0) = true := by simp only [bne, e0]; rfl
              cases e1 : (V == κ)
              · have f1 : (V != κ) = true := by simp only [bne, e1]; rfl
                have HN := Lib.hid (kdUp_none (hstep.trans (show stK (some κ) V = none by show (if (κ != 0 && V != κ) = true then none else some V) = none; rw [f0, f1]; rfl)) n (by omega))
                clear hstep e0 e1
                go_wp2_with fail
                refine wp_region_wk (fun w' => Mk0 wr w' ∧ w'.cell? ⟨w.heap.size, 0, none⟩ = some (.slice (some ⟨b, o, none⟩) n0 c0) ∧ w'.cell? ⟨w.heap.size, 1, none⟩ = some (.slice a1 n1 c1) ∧ w'.cell? ⟨w.heap.size + 1, 2, none⟩ = some (.slice (some ⟨b2, off, none⟩) n c) ∧ w'.cell? ⟨b2, off + k * 5, none⟩ = some (.int .i64 x.nd) ∧ w'.cell? ⟨b2, off + k * 5 + 2, none⟩ = some (.int .i64 x.eg)) (by kernel_rfl) (by kernel_rfl) (⟨Mk.drew1 _, k0, k1, j2, d0, d2⟩) ?_
                change Wk _ _ _ _ 15 0 _
                first | (refine Wk.skip (m := 14) (k := 0) rfl (by rfl) ?_) | (refine Wk.step (m := 14) (k := 0) (v := _) rfl (by rfl) (fun wv hS => by obtain ⟨s0, s1, s2, s3, s4, s5⟩ := hS; go_simp; try with_reducible rfl) ?_)
                try simp only [Act.put, List.getElem_toArray, List.getElem_cons_zero, List.setIfInBounds_toArray, List.set_cons_zero, List.set_cons_succ]
                first | (refine Wk.skip (m := 13) (k := 1) rfl (by rfl) ?_) | (refine Wk.step (m := 13) (k := 1) (v := _) rfl (by rfl) (fun wv hS => by obtain ⟨s0, s1, s2, s3, s4, s5⟩ := hS; go_simp; try with_reducible rfl) ?_)
                try simp only [Act.put, List.getElem_toArray, List.getElem_cons_succ, List.getElem_cons_zero, List.setIfInBounds_toArray, List.set_cons_zero, List.set_cons_succ]
                first | (refine Wk.skip (m := 12) (k := 2) rfl (by rfl) ?_) | (refine Wk.step (m := 12) (k := 2) (v := _) rfl (by rfl) (fun wv hS => by obtain ⟨s0, s1, s2, s3, s4, s5⟩ := hS; go_simp; try with_reducible rfl) ?_)
                try simp only [Act.put, List.getElem_toArray, List.getElem_cons_succ, List.getElem_cons_zero, List.setIfInBounds_toArray, List.set_cons_zero, List.set_cons_succ]
                first | (refine Wk.skip (m := 11) (k := 3) rfl (by rfl) ?_) | (refine Wk.step (m := 11) (k := 3) (v := _) rfl (by rfl) (fun wv hS => by obtain ⟨s0, s1, s2, s3, s4, s5⟩ := hS; go_simp; try with_reducible rfl) ?_)
                try simp only [Act.put, List.getElem_toArray, List.getElem_cons_succ, List.getElem_cons_zero, List.setIfInBounds_toArray, List.set_cons_zero, List.set_cons_succ]
                first | (refine Wk.skip (m := 10) (k := 4) rfl (by rfl) ?_) | (refine Wk.step (m := 10) (k := 4) (v := _) rfl (by rfl) (fun wv hS => by obtain ⟨s0, s1, s2, s3, s4, s5⟩ := hS; go_simp; try with_reducible rfl) ?_)
                try simp only [Act.put, List.getElem_toArray, List.getElem_cons_succ, List.getElem_cons_zero, List.setIfInBounds_toArray, List.set_cons_zero, List.set_cons_succ]
                first | (refine Wk.skip (m := 9) (k := 5) rfl (by rfl) ?_) | (refine Wk.step (m := 9) (k := 5) (v := _) rfl (by rfl) (fun wv hS => by obtain ⟨s0, s1, s2, s3, s4, s5⟩ := hS; go_simp; try with_reducible rfl) ?_)
                try simp only [Act.put, List.getElem_toArray, List.getElem_cons_succ, List.getElem_cons_zero, List.setIfInBounds_toArray, List.set_cons_zero, List.set_cons_succ]
                first | (refine Wk.skip (m := 8) (k := 6) rfl (by rfl) ?_) | (refine Wk.step (m := 8) (k := 6) (v := _) rfl (by rfl) (fun wv hS => by obtain ⟨s0, s1, s2, s3, s4, s5⟩ := hS; go_simp; try with_reducible rfl) ?_)
                try simp only [Act.put, List.getElem_toArray, List.getElem_cons_succ, List.getElem_cons_zero, List.setIfInBounds_toArray, List.set_cons_zero, List.set_cons_succ]
                first | (refine Wk.skip (m := 7) (k := 7) rfl (by rfl) ?_) | (refine Wk.step (m := 7) (k := 7) (v := _) rfl (by rfl) (fun wv hS => by obtain ⟨s0, s1, s2, s3, s4, s5⟩ := hS; go_simp; try with_reducible rfl) ?_)
                try simp only [Act.put, List.getElem_toArray, List.getElem_cons_succ, List.getElem_cons_zero, List.setIfInBounds_toArray, List.set_cons_zero, List.set_cons_succ]
                first | (refine Wk.skip (m := 6) (k := 8) rfl (by rfl) ?_) | (refine Wk.step (m := 6) (k := 8) (v := _) rfl (by rfl) (fun wv hS => by obtain ⟨s0, s1, s2, s3, s4, s5⟩ := hS; go_simp; try with_reducible rfl) ?_)
                try simp only [Act.put, List.getElem_toArray, List.getElem_cons_succ, List.getElem_cons_zero, List.setIfInBounds_toArray, List.set_cons_zero, List.set_cons_succ]
                first | (refine Wk.skip (m := 5) (k := 9) rfl (by rfl) ?_) | (refine Wk.step (m := 5) (k := 9) (v := _) rfl (by rfl) (fun wv hS => by obtain ⟨s0, s1, s2, s3, s4, s5⟩ := hS; go_simp; try with_reducible rfl) ?_)
                try simp only [Act.put, List.getElem_toArray, List.getElem_cons_succ, List.getElem_cons_zero, List.setIfInBounds_toArray, List.set_cons_zero, List.set_cons_succ]
                first | (refine Wk.skip (m := 4) (k := 10) rfl (by rfl) ?_) | (refine Wk.step (m := 4) (k := 10) (v := _) rfl (by rfl) (fun wv hS => by obtain ⟨s0, s1, s2, s3, s4, s5⟩ := hS; go_simp; try with_reducible rfl) ?_)
                try simp only [Act.put, List.getElem_toArray, List.getElem_cons_succ, List.getElem_cons_zero, List.setIfInBounds_toArray, List.set_cons_zero, List.set_cons_succ]
                first | (refine Wk.skip (m := 3) (k := 11) rfl (by rfl) ?_) | (refine Wk.step (m := 3) (k := 11) (v := _) rfl (by rfl) (fun wv hS => by obtain ⟨s0, s1, s2, s3, s4, s5⟩ := hS; go_simp; try with_reducible rfl) ?_)
                try simp only [Act.put, List.getElem_toArray, List.getElem_cons_succ, List.getElem_cons_zero, List.setIfInBounds_toArray, List.set_cons_zero, List.set_cons_succ]
                first | (refine Wk.skip (m := 2) (k := 12) rfl (by rfl) ?_) | (refine Wk.step (m := 2) (k := 12) (v := _) rfl (by rfl) (fun wv hS => by obtain ⟨s0, s1, s2, s3, s4, s5⟩ := hS; go_simp; try with_reducible rfl) ?_)
                try simp only [Act.put, List.getElem_toArray, List.getElem_cons_succ, List.getElem_cons_zero, List.setIfInBounds_toArray, List.set_cons_zero, List.set_cons_succ]
                refine Wk.call (m := 1) (k := 13) (v := .int .i64 V) _ _ rfl (by rfl) (fun wv hS => by obtain ⟨s0, s1, s2, s3, s4, s5⟩ := hS; go_simp; first | done | exact ⟨rfl, rfl⟩ | with_reducible rfl) (fun wv hS => ?_) ?_; · obtain ⟨s0, s1, s2, s3, s4, s5⟩ := hS; refine (specKind (some ⟨b, o, none⟩) a1 n0 c0 n1 c1 B zl x.nd x.eg wv (hl.mk (hM'.trans s0) hB (.inr (Nat.le_refl _))) (Nat.le_trans hB (hM'.trans s0).size) hn1).mono ?_; rintro e w' ⟨he, mm⟩; exact ⟨by rw [he, ← hV.out], ⟨s0.trans mm, mm.cellAt s1, mm.cellAt s2, mm.cellAt s3, mm.cellAt s4, mm.cellAt s5⟩⟩
                try simp only [Act.put, List.getElem_toArray, List.getElem_cons_succ, List.getElem_cons_zero, List.setIfInBounds_toArray, List.set_cons_zero, List.set_cons_succ]
                first | (refine Wk.skip (m := 0) (k := 14) rfl (by rfl) ?_) | (refine Wk.step (m := 0) (k := 14) (v := _) rfl (by rfl) (fun wv hS => by obtain ⟨s0, s1, s2, s3, s4, s5⟩ := hS; go_simp; try with_reducible rfl) ?_)
                try simp only [Act.put, List.getElem_toArray, List.getElem_cons_succ, List.getElem_cons_zero, List.setIfInBounds_toArray, List.set_cons_zero, List.set_cons_succ]
                refine Wk.done fun wE hE => ?_
                clear k0 k1 j2 d0 d2
                obtain ⟨mE, k0, k1, j2, d0, d2⟩ := hE
                have hM2 := hM.trans mE
                go_wp2_with fail
                go_ret
                exact ⟨retI (by rw [HR.out, HN.out]; rfl), M1.trans hM2⟩
              · have f1 : (V != κ) = false := by simp only [bne, e1]; rfl
                have HN := Lib.hid (hstep.trans (show stK (some κ) V = some V by show (if (κ != 0 && V != κ) = true then none else some V) = some V; rw [f1, Bool.and_false]; rfl))
                clear hstep e0 e1
                go_wp2_with fail
                refine wp_region_wk (fun w' => Mk0 wr w' ∧ w'.cell? ⟨w.heap.size, 0, none⟩ = some (.slice (some ⟨b, o, none⟩) n0 c0) ∧ w'.cell? ⟨w.heap.size, 1, none⟩ = some (.slice a1 n1 c1) ∧ w'.cell? ⟨w.heap.size + 1, 2, none⟩ = some (.slice (some ⟨b2, off, none⟩) n c) ∧ w'.cell? ⟨b2, off + k * 5, none⟩ = some (.int .i64 x.nd) ∧ w'.cell? ⟨b2, off + k * 5 + 2, none⟩ = some (.int .i64 x.eg)) (by kernel_rfl) (by kernel_rfl) (⟨Mk.drew1 _, k0, k1, j2, d0, d2⟩) ?_
                change Wk _ _ _ _ 15 0 _
                first | (refine Wk.skip (m := 14) (k := 0) rfl (by rfl) ?_) | (refine Wk.step (m := 14) (k := 0) (v := _) rfl (by rfl) (fun wv hS => by obtain ⟨s0, s1, s2, s3, s4, s5⟩ := hS; go_simp; try with_reducible rfl) ?_)
                try simp only [Act.put, List.getElem_toArray, List.getElem_cons_zero, List.setIfInBounds_toArray, List.set_cons_zero, List.set_cons_succ]
                first | (refine Wk.skip (m := 13) (k := 1) rfl (by rfl) ?_) | (refine Wk.step (m := 13) (k := 1) (v := _) rfl (by rfl) (fun wv hS => by obtain ⟨s0, s1, s2, s3, s4, s5⟩ := hS; go_simp; try with_reducible rfl) ?_)
                try simp only [Act.put, List.getElem_toArray, List.getElem_cons_succ, List.getElem_cons_zero, List.setIfInBounds_toArray, List.set_cons_zero, List.set_cons_succ]
                first | (refine Wk.skip (m := 12) (k := 2) rfl (by rfl) ?_) | (refine Wk.step (m := 12) (k := 2) (v := _) rfl (by rfl) (fun wv hS => by obtain ⟨s0, s1, s2, s3, s4, s5⟩ := hS; go_simp; try with_reducible rfl) ?_)
                try simp only [Act.put, List.getElem_toArray, List.getElem_cons_succ, List.getElem_cons_zero, List.setIfInBounds_toArray, List.set_cons_zero, List.set_cons_succ]
                first | (refine Wk.skip (m := 11) (k := 3) rfl (by rfl) ?_) | (refine Wk.step (m := 11) (k := 3) (v := _) rfl (by rfl) (fun wv hS => by obtain ⟨s0, s1, s2, s3, s4, s5⟩ := hS; go_simp; try with_reducible rfl) ?_)
                try simp only [Act.put, List.getElem_toArray, List.getElem_cons_succ, List.getElem_cons_zero, List.setIfInBounds_toArray, List.set_cons_zero, List.set_cons_succ]
                first | (refine Wk.skip (m := 10) (k := 4) rfl (by rfl) ?_) | (refine Wk.step (m := 10) (k := 4) (v := _) rfl (by rfl) (fun wv hS => by obtain ⟨s0, s1, s2, s3, s4, s5⟩ := hS; go_simp; try with_reducible rfl) ?_)
                try simp only [Act.put, List.getElem_toArray, List.getElem_cons_succ, List.getElem_cons_zero, List.setIfInBounds_toArray, List.set_cons_zero, List.set_cons_succ]
                first | (refine Wk.skip (m := 9) (k := 5) rfl (by rfl) ?_) | (refine Wk.step (m := 9) (k := 5) (v := _) rfl (by rfl) (fun wv hS => by obtain ⟨s0, s1, s2, s3, s4, s5⟩ := hS; go_simp; try with_reducible rfl) ?_)
                try simp only [Act.put, List.getElem_toArray, List.getElem_cons_succ, List.getElem_cons_zero, List.setIfInBounds_toArray, List.set_cons_zero, List.set_cons_succ]
                first | (refine Wk.skip (m := 8) (k := 6) rfl (by rfl) ?_) | (refine Wk.step (m := 8) (k := 6) (v := _) rfl (by rfl) (fun wv hS => by obtain ⟨s0, s1, s2, s3, s4, s5⟩ := hS; go_simp; try with_reducible rfl) ?_)
                try simp only [Act.put, List.getElem_toArray, List.getElem_cons_succ, List.getElem_cons_zero, List.setIfInBounds_toArray, List.set_cons_zero, List.set_cons_succ]
                first | (refine Wk.skip (m := 7) (k := 7) rfl (by rfl) ?_) | (refine Wk.step (m := 7) (k := 7) (v := _) rfl (by rfl) (fun wv hS => by obtain ⟨s0, s1, s2, s3, s4, s5⟩ := hS; go_simp; try with_reducible rfl) ?_)
                try simp only [Act.put, List.getElem_toArray, List.getElem_cons_succ, List.getElem_cons_zero, List.setIfInBounds_toArray, List.set_cons_zero, List.set_cons_succ]
                first | (refine Wk.skip (m := 6) (k := 8) rfl (by rfl) ?_) | (refine Wk.step (m := 6) (k := 8) (v := _) rfl (by rfl) (fun wv hS => by obtain ⟨s0, s1, s2, s3, s4, s5⟩ := hS; go_simp; try with_reducible rfl) ?_)
                try simp only [Act.put, List.getElem_toArray, List.getElem_cons_succ, List.getElem_cons_zero, List.setIfInBounds_toArray, List.set_cons_zero, List.set_cons_succ]
                first | (refine Wk.skip (m := 5) (k := 9) rfl (by rfl) ?_) | (refine Wk.step (m := 5) (k := 9) (v := _) rfl (by rfl) (fun wv hS => by obtain ⟨s0, s1, s2, s3, s4, s5⟩ := hS; go_simp; try with_reducible rfl) ?_)
                try simp only [Act.put, List.getElem_toArray, List.getElem_cons_succ, List.getElem_cons_zero, List.setIfInBounds_toArray, List.set_cons_zero, List.set_cons_succ]
                first | (refine Wk.skip (m := 4) (k := 10) rfl (by rfl) ?_) | (refine Wk.step (m := 4) (k := 10) (v := _) rfl (by rfl) (fun wv hS => by obtain ⟨s0, s1, s2, s3, s4, s5⟩ := hS; go_simp; try with_reducible rfl) ?_)
                try simp only [Act.put, List.getElem_toArray, List.getElem_cons_succ, List.getElem_cons_zero, List.setIfInBounds_toArray, List.set_cons_zero, List.set_cons_succ]
                first | (refine Wk.skip (m := 3) (k := 11) rfl (by rfl) ?_) | (refine Wk.step (m := 3) (k := 11) (v := _) rfl (by rfl) (fun wv hS => by obtain ⟨s0, s1, s2, s3, s4, s5⟩ := hS; go_simp; try with_reducible rfl) ?_)
                try simp only [Act.put, List.getElem_toArray, List.getElem_cons_succ, List.getElem_cons_zero, List.setIfInBounds_toArray, List.set_cons_zero, List.set_cons_succ]
                first | (refine Wk.skip (m := 2) (k := 12) rfl (by rfl) ?_) | (refine Wk.step (m := 2) (k := 12) (v := _) rfl (by rfl) (fun wv hS => by obtain ⟨s0, s1, s2, s3, s4, s5⟩ := hS; go_simp; try with_reducible rfl) ?_)
                try simp only [Act.put, List.getElem_toArray, List.getElem_cons_succ, List.getElem_cons_zero, List.setIfInBounds_toArray, List.set_cons_zero, List.set_cons_succ]
                refine Wk.call (m := 1) (k := 13) (v := .int .i64 V) _ _ rfl (by rfl) (fun wv hS => by obtain ⟨s0, s1, s2, s3, s4, s5⟩ := hS; go_simp; first | done | exact ⟨rfl, rfl⟩ | with_reducible rfl) (fun wv hS => ?_) ?_; · obtain ⟨s0, s1, s2, s3, s4, s5⟩ := hS; refine (specKind (some ⟨b, o, none⟩) a1 n0 c0 n1 c1 B zl x.nd x.eg wv (hl.mk (hM'.trans s0) hB (.inr (Nat.le_refl _))) (Nat.le_trans hB (hM'.trans s0).size) hn1).mono ?_; rintro e w' ⟨he, mm⟩; exact ⟨by rw [he, ← hV.out], ⟨s0.trans mm, mm.cellAt s1, mm.cellAt s2, mm.cellAt s3, mm.cellAt s4, mm.cellAt s5⟩⟩
                try simp only [Act.put, List.getElem_toArray, List.getElem_cons_succ, List.getElem_cons_zero, List.setIfInBounds_toArray, List.set_cons_zero, List.set_cons_succ]
                first | (refine Wk.skip (m := 0) (k := 14) rfl (by rfl) ?_) | (refine Wk.step (m := 0) (k := 14) (v := _) rfl (by rfl) (fun wv hS => by obtain ⟨s0, s1, s2, s3, s4, s5⟩ := hS; go_simp; try with_reducible rfl) ?_)
                try simp only [Act.put, List.getElem_toArray, List.getElem_cons_succ, List.getElem_cons_zero, List.setIfInBounds_toArray, List.set_cons_zero, List.set_cons_succ]
                refine Wk.done fun wE hE => ?_
                clear k0 k1 j2 d0 d2
                obtain ⟨mE, k0, k1, j2, d0, d2⟩ := hE
                have hM2 := hM.trans mE
                go_wp2_with fail
                go_roundw
                case rel => exact ⟨rfl, k + 1, V, by omega, by go_num, rfl, HN.out, hM2⟩
                case measure => simp [intOf]; omega
            · have f0 : (κ != 0) = false := by simp only [bne, e0]; rfl
              have HN := Lib.hid (hstep.trans (show stK (some κ) V = some V by show (if (κ != 0 && V != κ) = true then none else some V) = some V; rw [f0]; rfl))
              clear hstep e0
              go_wp2_with fail
              refine wp_region_wk (fun w' => Mk0 wr w' ∧ w'.cell? ⟨w.heap.size, 0, none⟩ = some (.slice (some ⟨b, o, none⟩) n0 c0) ∧ w'.cell? ⟨w.heap.size, 1, none⟩ = some (.slice a1 n1 c1) ∧ w'.cell? ⟨w.heap.size + 1, 2, none⟩ = some (.slice (some ⟨b2, off, none⟩) n c) ∧ w'.cell? ⟨b2, off + k * 5, none⟩ = some (.int .i64 x.nd) ∧ w'.cell? ⟨b2, off + k * 5 + 2, none⟩ = some (.int .i64 x.eg)) (by kernel_rfl) (by kernel_rfl) (⟨Mk.drew1 _, k0, k1, j2, d0, d2⟩) ?_
              change Wk _ _ _ _ 15 0 _
              first | (refine Wk.skip (m := 14) (k := 0) rfl (by rfl) ?_) | (refine Wk.step (m := 14) (k := 0) (v := _) rfl (by rfl) (fun wv hS => by obtain ⟨s0, s1, s2, s3, s4, s5⟩ := hS; go_simp; try with_reducible rfl) ?_)
              try simp only [Act.put, List.getElem_toArray, List.getElem_cons_zero, List.setIfInBounds_toArray, List.set_cons_zero, List.set_cons_succ]
              first | (refine Wk.skip (m := 13) (k := 1) rfl (by rfl) ?_) | (refine Wk.step (m := 13) (k := 1) (v := _) rfl (by rfl) (fun wv hS => by obtain ⟨s0, s1, s2, s3, s4, s5⟩ := hS; go_simp; try with_reducible rfl) ?_)
              try simp only [Act.put, List.getElem_toArray, List.getElem_cons_succ, List.getElem_cons_zero, List.setIfInBounds_toArray, List.set_cons_zero, List.set_cons_succ]
              first | (refine Wk.skip (m := 12) (k := 2) rfl (by rfl) ?_) | (refine Wk.step (m := 12) (k := 2) (v := _) rfl (by rfl) (fun wv hS => by obtain ⟨s0, s1, s2, s3, s4, s5⟩ := hS; go_simp; try with_reducible rfl) ?_)
              try simp only [Act.put, List.getElem_toArray, List.getElem_cons_succ, List.getElem_cons_zero, List.setIfInBounds_toArray, List.set_cons_zero, List.set_cons_succ]
              first | (refine Wk.skip (m := 11) (k := 3) rfl (by rfl) ?_) | (refine Wk.step (m := 11) (k := 3) (v := _) rfl (by rfl) (fun wv hS => by obtain ⟨s0, s1, s2, s3, s4, s5⟩ := hS; go_simp; try with_reducible rfl) ?_)
              try simp only [Act.put, List.getElem_toArray, List.getElem_cons_succ, List.getElem_cons_zero, List.setIfInBounds_toArray, List.set_cons_zero, List.set_cons_succ]
              first | (refine Wk.skip (m := 10) (k := 4) rfl (by rfl) ?_) | (refine Wk.step (m := 10) (k := 4) (v := _) rfl (by rfl) (fun wv hS => by obtain ⟨s0, s1, s2, s3, s4, s5⟩ := hS; go_simp; try with_reducible rfl) ?_)
              try simp only [Act.put, List.getElem_toArray, List.getElem_cons_succ, List.getElem_cons_zero, List.setIfInBounds_toArray, List.set_cons_zero, List.set_cons_succ]
              first | (refine Wk.skip (m := 9) (k := 5) rfl (by rfl) ?_) | (refine Wk.step (m := 9) (k := 5) (v := _) rfl (by rfl) (fun wv hS => by obtain ⟨s0, s1, s2, s3, s4, s5⟩ := hS; go_simp; try with_reducible rfl) ?_)
              try simp only [Act.put, List.getElem_toArray, List.getElem_cons_succ, List.getElem_cons_zero, List.setIfInBounds_toArray, List.set_cons_zero, List.set_cons_succ]
              first | (refine Wk.skip (m := 8) (k := 6) rfl (by rfl) ?_) | (refine Wk.step (m := 8) (k := 6) (v := _) rfl (by rfl) (fun wv hS => by obtain ⟨s0, s1, s2, s3, s4, s5⟩ := hS; go_simp; try with_reducible rfl) ?_)
              try simp only [Act.put, List.getElem_toArray, List.getElem_cons_succ, List.getElem_cons_zero, List.setIfInBounds_toArray, List.set_cons_zero, List.set_cons_succ]
              first | (refine Wk.skip (m := 7) (k := 7) rfl (by rfl) ?_) | (refine Wk.step (m := 7) (k := 7) (v := _) rfl (by rfl) (fun wv hS => by obtain ⟨s0, s1, s2, s3, s4, s5⟩ := hS; go_simp; try with_reducible rfl) ?_)
              try simp only [Act.put, List.getElem_toArray, List.getElem_cons_succ, List.getElem_cons_zero, List.setIfInBounds_toArray, List.set_cons_zero, List.set_cons_succ]
              first | (refine Wk.skip (m := 6) (k := 8) rfl (by rfl) ?_) | (refine Wk.step (m := 6) (k := 8) (v := _) rfl (by rfl) (fun wv hS => by obtain ⟨s0, s1, s2, s3, s4, s5⟩ := hS; go_simp; try with_reducible rfl) ?_)
              try simp only [Act.put, List.getElem_toArray, List.getElem_cons_succ, List.getElem_cons_zero, List.setIfInBounds_toArray, List.set_cons_zero, List.set_cons_succ]
              first | (refine Wk.skip (m := 5) (k := 9) rfl (by rfl) ?_) | (refine Wk.step (m := 5) (k := 9) (v := _) rfl (by rfl) (fun wv hS => by obtain ⟨s0, s1, s2, s3, s4, s5⟩ := hS; go_simp; try with_reducible rfl) ?_)
              try simp only [Act.put, List.getElem_toArray, List.getElem_cons_succ, List.getElem_cons_zero, List.setIfInBounds_toArray, List.set_cons_zero, List.set_cons_succ]
              first | (refine Wk.skip (m := 4) (k := 10) rfl (by rfl) ?_) | (refine Wk.step (m := 4) (k := 10) (v := _) rfl (by rfl) (fun wv hS => by obtain ⟨s0, s1, s2, s3, s4, s5⟩ := hS; go_simp; try with_reducible rfl) ?_)
              try simp only [Act.put, List.getElem_toArray, List.getElem_cons_succ, List.getElem_cons_zero, List.setIfInBounds_toArray, List.set_cons_zero, List.set_cons_succ]
              first | (refine Wk.skip (m := 3) (k := 11) rfl (by rfl) ?_) | (refine Wk.step (m := 3) (k := 11) (v := _) rfl (by rfl) (fun wv hS => by obtain ⟨s0, s1, s2, s3, s4, s5⟩ := hS; go_simp; try with_reducible rfl) ?_)
              try simp only [Act.put, List.getElem_toArray, List.getElem_cons_succ, List.getElem_cons_zero, List.setIfInBounds_toArray, List.set_cons_zero, List.set_cons_succ]
              first | (refine Wk.skip (m := 2) (k := 12) rfl (by rfl) ?_) | (refine Wk.step (m := 2) (k := 12) (v := _) rfl (by rfl) (fun wv hS => by obtain ⟨s0, s1, s2, s3, s4, s5⟩ := hS; go_simp; try with_reducible rfl) ?_)
              try simp only [Act.put, List.getElem_toArray, List.getElem_cons_succ, List.getElem_cons_zero, List.setIfInBounds_toArray, List.set_cons_zero, List.set_cons_succ]
              refine Wk.call (m := 1) (k := 13) (v := .int .i64 V) _ _ rfl (by rfl) (fun wv hS => by obtain ⟨s0, s1, s2, s3, s4, s5⟩ := hS; go_simp; first | done | exact ⟨rfl, rfl⟩ | with_reducible rfl) (fun wv hS => ?_) ?_; · obtain ⟨s0, s1, s2, s3, s4, s5⟩ := hS; refine (specKind (some ⟨b, o, none⟩) a1 n0 c0 n1 c1 B zl x.nd x.eg wv (hl.mk (hM'.trans s0) hB (.inr (Nat.le_refl _))) (Nat.le_trans hB (hM'.trans s0).size) hn1).mono ?_; rintro e w' ⟨he, mm⟩; exact ⟨by rw [he, ← hV.out], ⟨s0.trans mm, mm.cellAt s1, mm.cellAt s2, mm.cellAt s3, mm.cellAt s4, mm.cellAt s5⟩⟩
              try simp only [Act.put, List.getElem_toArray, List.getElem_cons_succ, List.getElem_cons_zero, List.setIfInBounds_toArray, List.set_cons_zero, List.set_cons_succ]
              first | (refine Wk.skip (m := 0) (k := 14) rfl (by rfl) ?_) | (refine Wk.step (m := 0) (k := 14) (v := _) rfl (by rfl) (fun wv hS => by obtain ⟨s0, s1, s2, s3, s4, s5⟩ := hS; go_simp; try with_reducible rfl) ?_)
              try simp only [Act.put, List.getElem_toArray, List.getElem_cons_succ, List.getElem_cons_zero, List.setIfInBounds_toArray, List.set_cons_zero, List.set_cons_succ]
              refine Wk.done fun wE hE => ?_
              clear k0 k1 j2 d0 d2
              obtain ⟨mE, k0, k1, j2, d0, d2⟩ := hE
              have hM2 := hM.trans mE
              go_wp2_with fail
              go_roundw
              case rel => exact ⟨rfl, k + 1, V, by omega, by go_num, rfl, HN.out, hM2⟩
              case measure => simp [intOf]; omega
          · have HE := Lib.hid (show kdUp zl n1 zs (k + 1) = some κ by rw [kdUp_skip (by rw [← hx.out]; simpa using e), hS.out])
            have hM2 := hM
            go_wp2_with fail
            go_roundw
            case rel => exact ⟨rfl, k + 1, κ, by omega, by go_num, rfl, HE.out, hM2⟩
            case measure => simp [intOf]; omega
        · obtain rfl : k = n := by omega
          cases e1 : (κ == 1)
          · have n1' : κ ≠ 1 := by simpa using e1
            cases e2 : (κ == 2)
            · have n2' : κ ≠ 2 := by simpa using e2
              have HE := Lib.hid (show sgKd n0 zA zl n1 zs k = 0 by rw [HR.out, hS.out]; simp [resS, n1', n2'])
              clear n1' n2'
              go_wp2_with fail
              go_ret
              exact ⟨retI HE.out.symm, hM'⟩
            · have n2' : κ = 2 := by simpa using e2
              have HE := Lib.hid (show sgKd n0 zA zl n1 zs k = 2 by rw [HR.out, hS.out]; rw [n2']; rfl)
              clear n1' n2'
              go_wp2_with fail
              go_ret
              exact ⟨retI HE.out.symm, hM'⟩
          · have n1' : κ = 1 := by simpa using e1
            have HE := Lib.hid (show sgKd n0 zA zl n1 zs k = 1 by rw [HR.out, hS.out]; rw [n1']; rfl)
            clear n1'
            go_wp2_with fail
            go_ret
            exact ⟨retI HE.out.symm, hM'⟩

end Go.Proofs.YtdhdkhnefnbdgaaGreatDoor
