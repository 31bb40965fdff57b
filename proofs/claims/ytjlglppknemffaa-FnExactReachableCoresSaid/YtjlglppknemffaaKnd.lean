
/- InterfacesOfKind of both sides. -/
import Derived.Test.YtjlglppknemffaaIfsS
import Derived.Test.YtjlglppknemffaaIfsI
import Derived.Test.YtjlglppknemffaaKindOf
import Derived.Test.YtjlglppknemffaaWk
namespace Go.Proofs.Ytjlglppknemffaa
open Go.ChangeShapes Go.WideShapes Go.ChangeAt Go.RowKit
set_option linter.unusedVariables false
def ikUp (zl : List TLink) (n1 : Nat) (r kd : Int) (L : List Int) : Nat → List Int
  | 0 => []
  | k + 1 => if (kindOf zl r (L.getD k 0) n1 == kd) = true then ikUp zl n1 r kd L k ++ [L.getD k 0] else ikUp zl n1 r kd L k
theorem ikUp_le (zl : List TLink) (n1 : Nat) (r kd : Int) (L : List Int) : ∀ k, (ikUp zl n1 r kd L k).length ≤ k
  | 0 => by simp [ikUp]
  | k + 1 => by
    have := ikUp_le zl n1 r kd L k
    rw [ikUp]
    split
    · simp; omega
    · omega
/-- The interfaces of an AS, as both sides give them. -/
def ifsL (zl : List TLink) (n1 : Nat) (r : Int) : List Int := uniqL (ifUp zl r n1)
theorem ifsL_le (zl : List TLink) (n1 : Nat) (r : Int) : (ifsL zl n1 r).length ≤ 2 * n1 := Nat.le_trans (uniqL_len _) (ifUp_le _ _ _)
def ikL (zl : List TLink) (n1 : Nat) (r kd : Int) : List Int := ikUp zl n1 r kd (ifsL zl n1 r) (ifsL zl n1 r).length
theorem ikL_le (zl : List TLink) (n1 : Nat) (r kd : Int) : (ikL zl n1 r kd).length ≤ 2 * n1 := Nat.le_trans (ikUp_le _ _ _ _ _ _) (ifsL_le _ _ _)
/-- The blocks from lo to hi stand. -/
def Kp2 (lo hi : Nat) (w w' : World) : Prop := hi ≤ w'.heap.size ∧ ∀ k, lo ≤ k → k < hi → w'.heap[k]? = w.heap[k]?
theorem Kp2.refl (lo : Nat) (w : World) : Kp2 lo w.heap.size w w := ⟨Nat.le_refl _, fun _ _ _ => rfl⟩
theorem Kp2.mk {lo hi : Nat} {a b c : World} (h : Kp2 lo hi a b) (m : Mk0 b c) : Kp2 lo hi a c :=
  ⟨Nat.le_trans h.1 m.size, fun k h1 h2 => (m.block k (Nat.lt_of_lt_of_le h2 h.1) (.inr (Nat.zero_le _))).trans (h.2 k h1 h2)⟩
theorem Kp2.grow {lo hi : Nat} {a b c : World} {row : Option Nat} (h : Kp2 lo hi a b) (hg : b.grownBy c row) (hr : ∀ g, row = some g → g < lo ∨ hi ≤ g) : Kp2 lo hi a c :=
  ⟨Nat.le_trans h.1 hg.size, fun k h1 h2 => (hg.block k (Nat.lt_of_lt_of_le h2 h.1) (fun e => by have := hr _ e.symm; omega)).trans (h.2 k h1 h2)⟩
theorem Kp2.has {lo : Nat} {a b : World} {A : Option Addr} {N : Nat} {L : List Int} (h : Kp2 lo a.heap.size a b) (ho : Own .i64 a lo A N L) : Has .i64 b a.heap.size A N L :=
  ⟨ho.1, fun hn => by
    obtain ⟨b', off, e, hl, hb, hc⟩ := ho.2 hn
    exact ⟨b', off, e, hb, fun i hi => (World.cell?_of_block (w := a) (h.2 b' hl hb)).trans (hc i hi).1⟩⟩
def OB (lo hi : Nat) (v : Value) : Prop := ∀ g, v.ownBlock = some g → g < lo ∨ hi ≤ g
set_option maxRecDepth 100000 in
set_option maxHeartbeats 4000000 in
theorem specIk (a0 a1 : Option Addr) (n0 c0 n1 c1 B : Nat) (zl : List TLink) (r kd : Int) (w : World) (hl : HasLink w B a1 n1 zl) (hB : B ≤ w.heap.size) (hn1 : n1 ≤ 1048576) :
    Calls Try.prog 25 #[.agg #[.slice a0 n0 c0, .slice a1 n1 c1], .int .i64 r, .int .i64 kd] w (OutIfs w (ikL zl n1 r kd)) := by
  obtain ⟨i0, hi, hz0, hz1, hz2⟩ := info_parts infoI64
  have hby : i0.bytes ≤ 8 := by rw [hz2]; decide
  have M0 := Mk.alloc w (Obj.cells #[Value.slice a0 n0 c0, Value.slice a1 n1 c1] 31)
  have k0 : (w.alloc (Obj.cells #[Value.slice a0 n0 c0, Value.slice a1 n1 c1] 31)).cell? ⟨w.heap.size, 0, none⟩ = some (.slice a0 n0 c0) := by simp [go_sem]
  have k1 : (w.alloc (Obj.cells #[Value.slice a0 n0 c0, Value.slice a1 n1 c1] 31)).cell? ⟨w.heap.size, 1, none⟩ = some (.slice a1 n1 c1) := by simp [go_sem]
  have K0 := Lib.hid k0
  have K1 := Lib.hid k1
  have hs1 : (w.alloc (Obj.cells #[Value.slice a0 n0 c0, Value.slice a1 n1 c1] 31)).heap.size = w.heap.size + 1 := by rw [World.size_alloc]
  have hs2 : ((w.alloc (Obj.cells #[Value.slice a0 n0 c0, Value.slice a1 n1 c1] 31)).alloc (.cells #[] 3)).heap.size = (w.heap.size + 1 + 1) := by rw [World.size_alloc, World.size_alloc]
  have hA : ((w.alloc (Obj.cells #[Value.slice a0 n0 c0, Value.slice a1 n1 c1] 31)).alloc (.cells #[] 3)).ownsRow (w.alloc (Obj.cells #[Value.slice a0 n0 c0, Value.slice a1 n1 c1] 31)).heap.size 3 1 (.slice (some ⟨(w.alloc (Obj.cells #[Value.slice a0 n0 c0, Value.slice a1 n1 c1] 31)).heap.size, 0, none⟩) 0 0) 0 (([] : List Int).map (.int .i64)) := own_lit (w.alloc (Obj.cells #[Value.slice a0 n0 c0, Value.slice a1 n1 c1] 31)) 3 [] (by simp)
  rw [hs1] at hA
  have ML := Mk.alloc (w.alloc (Obj.cells #[Value.slice a0 n0 c0, Value.slice a1 n1 c1] 31)) (.cells #[] 3)
  replace k0 := ML.cellAt k0
  replace k1 := ML.cellAt k1
  have M1 := M0.trans ML
  go_enter Try.func25, Try.ntmps25
  go_wp2_with fail
  refine (specIfs a0 a1 n0 c0 n1 c1 B zl r _ (hl.mk M1 hB (.inr (Nat.le_refl _))) (Nat.le_trans hB M1.size) hn1).mono ?_
  rintro e w2 ⟨A, N, C, rfl, hAc, hO, b2⟩
  have m2 := Mk.of_below b2
  rw [hs2] at hO
  have hown0 := own_keptR hA m2
  have N2 := ML.trans m2
  have hN := hO.1
  have hNb : N ≤ 2097152 := by have h1 := ifsL_le zl n1 r; unfold ifsL at h1; omega
  have HR := Lib.hid (show ikL zl n1 r kd = ikUp zl n1 r kd (ifsL zl n1 r) N by unfold ikL; rw [← hN]; rfl)
  have HO := Lib.hid (show Own .i64 w2 (w.heap.size + 1 + 1) A N (ifsL zl n1 r) from hO)
  clear hO hN hA M1 ML b2 m2 k0 k1
  go_wp2_with fail
  go_loopw [7, 9] (fun v i wr => ∃ k : Nat, k ≤ N ∧ i = .int .i64 k ∧ wr.ownsRow (w.heap.size + 1) 3 1 v (ikUp zl n1 r kd (ifsL zl n1 r) k).length ((ikUp zl n1 r kd (ifsL zl n1 r) k).map (.int .i64)) ∧ Mk0 (w.alloc (Obj.cells #[Value.slice a0 n0 c0, Value.slice a1 n1 c1] 31)) wr ∧ Kp2 (w.heap.size + 1 + 1) w2.heap.size w2 wr ∧ OB (w.heap.size + 1 + 1) w2.heap.size v) (fun _ i _ => N - (intOf i).toNat)
  case atStart => exact ⟨0, Nat.zero_le _, rfl, hown0, N2, Kp2.refl _ _, fun g hg => .inl (by simp [Value.ownBlock] at hg; omega)⟩
  case round =>
    clear hown0
    obtain ⟨k, hk, rfl, hown, hM, hK, hOB⟩ := hrel
    have HOB := Lib.hid hOB
    have HKK := Lib.hid hK
    clear hOB hK
    have k0 := hM.cellAt K0.out
    have k1 := hM.cellAt K1.out
    have hM' := M0.trans hM
    have hlow := hM.size
    rw [hs1] at hlow
    have hul := ikUp_le zl n1 r kd (ifsL zl n1 r) k
    obtain ⟨L, hL⟩ : ∃ L, Hid (L = ikUp zl n1 r kd (ifsL zl n1 r) k) := ⟨_, Lib.hid rfl⟩
    rw [← hL.out] at hown hul
    by_cases hlt : k < N
    · have hH := HKK.out.has HO.out
      obtain ⟨b, off, z, rfl, hb, hz, ci⟩ := hH.at_ hlt
      clear hH
      have i1 : (0 : Int) ≤ (k : Int) := by omega
      have i2 : (k : Int) < (N : Int) := by omega
      obtain ⟨V, hV⟩ : ∃ V, Hid (V = kindOf zl r z n1) := ⟨_, Lib.hid rfl⟩
      cases ek : (V == kd)
      · have HE := Lib.hid (show ikUp zl n1 r kd (ifsL zl n1 r) (k + 1) = L by rw [ikUp, ← hz.out, ← hV.out, if_neg (by simp [ek]), hL.out])
        go_wp2_with fail
        refine wp_region_wk (fun w' => Mk0 wr w' ∧ w'.cell? ⟨w.heap.size, 0, none⟩ = some (.slice a0 n0 c0) ∧ w'.cell? ⟨w.heap.size, 1, none⟩ = some (.slice a1 n1 c1) ∧ w'.cell? ⟨b, off + k, none⟩ = some (.int .i64 z)) (by kernel_rfl) (by kernel_rfl) (⟨Mk.drew1 _, k0, k1, ci⟩) ?_
        change Wk _ _ _ _ 9 0 _
        first | (refine Wk.skip (m := 8) (k := 0) rfl (by rfl) ?_) | (refine Wk.step (m := 8) (k := 0) (v := _) rfl (by rfl) (fun wv hS => by obtain ⟨s0, s1, s2, s3⟩ := hS; go_simp; try with_reducible rfl) ?_)
        try simp only [Act.put, List.getElem_toArray, List.getElem_cons_zero, List.setIfInBounds_toArray, List.set_cons_zero, List.set_cons_succ]
        first | (refine Wk.skip (m := 7) (k := 1) rfl (by rfl) ?_) | (refine Wk.step (m := 7) (k := 1) (v := _) rfl (by rfl) (fun wv hS => by obtain ⟨s0, s1, s2, s3⟩ := hS; go_simp; try with_reducible rfl) ?_)
        try simp only [Act.put, List.getElem_toArray, List.getElem_cons_succ, List.getElem_cons_zero, List.setIfInBounds_toArray, List.set_cons_zero, List.set_cons_succ]
        first | (refine Wk.skip (m := 6) (k := 2) rfl (by rfl) ?_) | (refine Wk.step (m := 6) (k := 2) (v := _) rfl (by rfl) (fun wv hS => by obtain ⟨s0, s1, s2, s3⟩ := hS; go_simp; try with_reducible rfl) ?_)
        try simp only [Act.put, List.getElem_toArray, List.getElem_cons_succ, List.getElem_cons_zero, List.setIfInBounds_toArray, List.set_cons_zero, List.set_cons_succ]
        first | (refine Wk.skip (m := 5) (k := 3) rfl (by rfl) ?_) | (refine Wk.step (m := 5) (k := 3) (v := _) rfl (by rfl) (fun wv hS => by obtain ⟨s0, s1, s2, s3⟩ := hS; go_simp; try with_reducible rfl) ?_)
        try simp only [Act.put, List.getElem_toArray, List.getElem_cons_succ, List.getElem_cons_zero, List.setIfInBounds_toArray, List.set_cons_zero, List.set_cons_succ]
        first | (refine Wk.skip (m := 4) (k := 4) rfl (by rfl) ?_) | (refine Wk.step (m := 4) (k := 4) (v := _) rfl (by rfl) (fun wv hS => by obtain ⟨s0, s1, s2, s3⟩ := hS; go_simp; try with_reducible rfl) ?_)
        try simp only [Act.put, List.getElem_toArray, List.getElem_cons_succ, List.getElem_cons_zero, List.setIfInBounds_toArray, List.set_cons_zero, List.set_cons_succ]
        first | (refine Wk.skip (m := 3) (k := 5) rfl (by rfl) ?_) | (refine Wk.step (m := 3) (k := 5) (v := _) rfl (by rfl) (fun wv hS => by obtain ⟨s0, s1, s2, s3⟩ := hS; go_simp; try with_reducible rfl) ?_)
        try simp only [Act.put, List.getElem_toArray, List.getElem_cons_succ, List.getElem_cons_zero, List.setIfInBounds_toArray, List.set_cons_zero, List.set_cons_succ]
        refine Wk.call (m := 2) (k := 6) (v := .int .i64 V) _ _ rfl (by rfl) (fun wv hS => by obtain ⟨s0, s1, s2, s3⟩ := hS; go_simp; first | done | exact ⟨rfl, rfl⟩ | with_reducible rfl) (fun wv hS => ?_) ?_; · obtain ⟨s0, s1, s2, s3⟩ := hS; refine (specKind a0 a1 n0 c0 n1 c1 B zl r z wv (hl.mk (hM'.trans s0) hB (.inr (Nat.le_refl _))) (Nat.le_trans hB (hM'.trans s0).size) hn1).mono ?_; rintro e w' ⟨he, mm⟩; exact ⟨by rw [he, ← hV.out], ⟨s0.trans mm, mm.cellAt s1, mm.cellAt s2, mm.cellAt s3⟩⟩
        try simp only [Act.put, List.getElem_toArray, List.getElem_cons_succ, List.getElem_cons_zero, List.setIfInBounds_toArray, List.set_cons_zero, List.set_cons_succ]
        first | (refine Wk.skip (m := 1) (k := 7) rfl (by rfl) ?_) | (refine Wk.step (m := 1) (k := 7) (v := _) rfl (by rfl) (fun wv hS => by obtain ⟨s0, s1, s2, s3⟩ := hS; go_simp; try with_reducible rfl) ?_)
        try simp only [Act.put, List.getElem_toArray, List.getElem_cons_succ, List.getElem_cons_zero, List.setIfInBounds_toArray, List.set_cons_zero, List.set_cons_succ]
        first | (refine Wk.skip (m := 0) (k := 8) rfl (by rfl) ?_) | (refine Wk.step (m := 0) (k := 8) (v := _) rfl (by rfl) (fun wv hS => by obtain ⟨s0, s1, s2, s3⟩ := hS; go_simp; try with_reducible rfl) ?_)
        try simp only [Act.put, List.getElem_toArray, List.getElem_cons_succ, List.getElem_cons_zero, List.setIfInBounds_toArray, List.set_cons_zero, List.set_cons_succ]
        refine Wk.done fun wE hE => ?_
        clear k0 k1 ci
        obtain ⟨mE, k0, k1, ci⟩ := hE
        go_wp2_with fail
        go_roundw
        case rel => exact ⟨k + 1, by omega, by go_num, by rw [HE.out]; exact own_keptR hown mE, hM.trans mE, HKK.out.mk mE, HOB.out⟩
        case measure => simp [intOf]; omega
      · have HE := Lib.hid (show ikUp zl n1 r kd (ifsL zl n1 r) (k + 1) = L ++ [z] by rw [ikUp, ← hz.out, ← hV.out, if_pos ek, hL.out])
        go_wp2_with fail
        refine wp_region_wk (fun w' => Mk0 wr w' ∧ w'.cell? ⟨w.heap.size, 0, none⟩ = some (.slice a0 n0 c0) ∧ w'.cell? ⟨w.heap.size, 1, none⟩ = some (.slice a1 n1 c1) ∧ w'.cell? ⟨b, off + k, none⟩ = some (.int .i64 z)) (by kernel_rfl) (by kernel_rfl) (⟨Mk.drew1 _, k0, k1, ci⟩) ?_
        change Wk _ _ _ _ 9 0 _
        first | (refine Wk.skip (m := 8) (k := 0) rfl (by rfl) ?_) | (refine Wk.step (m := 8) (k := 0) (v := _) rfl (by rfl) (fun wv hS => by obtain ⟨s0, s1, s2, s3⟩ := hS; go_simp; try with_reducible rfl) ?_)
        try simp only [Act.put, List.getElem_toArray, List.getElem_cons_zero, List.setIfInBounds_toArray, List.set_cons_zero, List.set_cons_succ]
        first | (refine Wk.skip (m := 7) (k := 1) rfl (by rfl) ?_) | (refine Wk.step (m := 7) (k := 1) (v := _) rfl (by rfl) (fun wv hS => by obtain ⟨s0, s1, s2, s3⟩ := hS; go_simp; try with_reducible rfl) ?_)
        try simp only [Act.put, List.getElem_toArray, List.getElem_cons_succ, List.getElem_cons_zero, List.setIfInBounds_toArray, List.set_cons_zero, List.set_cons_succ]
        first | (refine Wk.skip (m := 6) (k := 2) rfl (by rfl) ?_) | (refine Wk.step (m := 6) (k := 2) (v := _) rfl (by rfl) (fun wv hS => by obtain ⟨s0, s1, s2, s3⟩ := hS; go_simp; try with_reducible rfl) ?_)
        try simp only [Act.put, List.getElem_toArray, List.getElem_cons_succ, List.getElem_cons_zero, List.setIfInBounds_toArray, List.set_cons_zero, List.set_cons_succ]
        first | (refine Wk.skip (m := 5) (k := 3) rfl (by rfl) ?_) | (refine Wk.step (m := 5) (k := 3) (v := _) rfl (by rfl) (fun wv hS => by obtain ⟨s0, s1, s2, s3⟩ := hS; go_simp; try with_reducible rfl) ?_)
        try simp only [Act.put, List.getElem_toArray, List.getElem_cons_succ, List.getElem_cons_zero, List.setIfInBounds_toArray, List.set_cons_zero, List.set_cons_succ]
        first | (refine Wk.skip (m := 4) (k := 4) rfl (by rfl) ?_) | (refine Wk.step (m := 4) (k := 4) (v := _) rfl (by rfl) (fun wv hS => by obtain ⟨s0, s1, s2, s3⟩ := hS; go_simp; try with_reducible rfl) ?_)
        try simp only [Act.put, List.getElem_toArray, List.getElem_cons_succ, List.getElem_cons_zero, List.setIfInBounds_toArray, List.set_cons_zero, List.set_cons_succ]
        first | (refine Wk.skip (m := 3) (k := 5) rfl (by rfl) ?_) | (refine Wk.step (m := 3) (k := 5) (v := _) rfl (by rfl) (fun wv hS => by obtain ⟨s0, s1, s2, s3⟩ := hS; go_simp; try with_reducible rfl) ?_)
        try simp only [Act.put, List.getElem_toArray, List.getElem_cons_succ, List.getElem_cons_zero, List.setIfInBounds_toArray, List.set_cons_zero, List.set_cons_succ]
        refine Wk.call (m := 2) (k := 6) (v := .int .i64 V) _ _ rfl (by rfl) (fun wv hS => by obtain ⟨s0, s1, s2, s3⟩ := hS; go_simp; first | done | exact ⟨rfl, rfl⟩ | with_reducible rfl) (fun wv hS => ?_) ?_; · obtain ⟨s0, s1, s2, s3⟩ := hS; refine (specKind a0 a1 n0 c0 n1 c1 B zl r z wv (hl.mk (hM'.trans s0) hB (.inr (Nat.le_refl _))) (Nat.le_trans hB (hM'.trans s0).size) hn1).mono ?_; rintro e w' ⟨he, mm⟩; exact ⟨by rw [he, ← hV.out], ⟨s0.trans mm, mm.cellAt s1, mm.cellAt s2, mm.cellAt s3⟩⟩
        try simp only [Act.put, List.getElem_toArray, List.getElem_cons_succ, List.getElem_cons_zero, List.setIfInBounds_toArray, List.set_cons_zero, List.set_cons_succ]
        first | (refine Wk.skip (m := 1) (k := 7) rfl (by rfl) ?_) | (refine Wk.step (m := 1) (k := 7) (v := _) rfl (by rfl) (fun wv hS => by obtain ⟨s0, s1, s2, s3⟩ := hS; go_simp; try with_reducible rfl) ?_)
        try simp only [Act.put, List.getElem_toArray, List.getElem_cons_succ, List.getElem_cons_zero, List.setIfInBounds_toArray, List.set_cons_zero, List.set_cons_succ]
        first | (refine Wk.skip (m := 0) (k := 8) rfl (by rfl) ?_) | (refine Wk.step (m := 0) (k := 8) (v := _) rfl (by rfl) (fun wv hS => by obtain ⟨s0, s1, s2, s3⟩ := hS; go_simp; try with_reducible rfl) ?_)
        try simp only [Act.put, List.getElem_toArray, List.getElem_cons_succ, List.getElem_cons_zero, List.setIfInBounds_toArray, List.set_cons_zero, List.set_cons_succ]
        refine Wk.done fun wE hE => ?_
        clear k0 k1 ci
        obtain ⟨mE, k0, k1, ci⟩ := hE
        have hn1' := has_new .i64 wE 3 z
        have MA := Mk.alloc wE (.cells #[.int .i64 z] 3)
        have ho' := own_keptR (own_keptR hown mE) MA
        have hsE := mE.size
        have hlo' : w.heap.size + 1 ≤ (wE.alloc (.cells #[.int .i64 z] 3)).heap.size := by rw [World.size_alloc]; omega
        go_wp2_with (at_builtin; refine wpList_app rfl (.tmp 29) (.tmp 34) 35 rfl _ 3 i0 Try.underlying35 hi hz0 hz1 hby _ L L.length rfl ho' _ 1 1 [z] rfl (fun h => by cases h) hn1' (by omega) hlo' ?_; intro v3 w3 ho3 hg3 hat3)
        have M3 := (hM.trans (mE.trans MA)).appR hg3 (fun g hg => by have := (ho'.lt g hg).1; rw [hs1]; omega)
        have K3 := Lib.hid ((HKK.out.mk (mE.trans MA)).grow hg3 HOB.out)
        have B3 := Lib.hid (show OB (w.heap.size + 1 + 1) w2.heap.size v3 from fun g hg => by exact hat3.elim (fun h => HOB.out g (h.symm.trans hg)) (fun h => .inr (by rw [hg] at h; simp only [Option.some.injEq] at h; subst h; exact (HKK.out.mk (mE.trans MA)).1)))
        clear hat3
        go_wp2_with fail
        go_roundw
        case rel => exact ⟨k + 1, by omega, by go_num, by rw [HE.out, List.length_append]; exact ho3, M3, K3.out, B3.out⟩
        case measure => simp [intOf]; omega
    · obtain rfl : k = N := by omega
      obtain ⟨A3, C3, rfl, hA3, hN3⟩ := ownsRow_sliceR2 hown
      have hO3 := ownsRow_own hown
      go_wp2_with fail
      go_ret
      exact ⟨A3, _, C3, rfl, hA3, by rw [HR.out, ← hL.out]; exact hO3.low (Nat.le_succ _), hM'.below0⟩

set_option maxRecDepth 100000 in
set_option maxHeartbeats 4000000 in
theorem implIk (a0 a1 : Option Addr) (n0 c0 n1 c1 B : Nat) (zl : List TLink) (r kd : Int) (w : World) (hl : HasLink w B a1 n1 zl) (hB : B ≤ w.heap.size) (hn1 : n1 ≤ 1048576) :
    Calls Try.prog 26 #[.agg #[.slice a0 n0 c0, .slice a1 n1 c1], .int .i64 r, .int .i64 kd] w (OutIfs w (ikL zl n1 r kd)) := by
  obtain ⟨i0, hi, hz0, hz1, hz2⟩ := info_parts infoI64
  have hby : i0.bytes ≤ 8 := by rw [hz2]; decide
  have M0 := Mk.alloc w (Obj.cells #[Value.slice a0 n0 c0, Value.slice a1 n1 c1] 31)
  have k0 : (w.alloc (Obj.cells #[Value.slice a0 n0 c0, Value.slice a1 n1 c1] 31)).cell? ⟨w.heap.size, 0, none⟩ = some (.slice a0 n0 c0) := by simp [go_sem]
  have k1 : (w.alloc (Obj.cells #[Value.slice a0 n0 c0, Value.slice a1 n1 c1] 31)).cell? ⟨w.heap.size, 1, none⟩ = some (.slice a1 n1 c1) := by simp [go_sem]
  have K0 := Lib.hid k0
  have K1 := Lib.hid k1
  have hs1 : (w.alloc (Obj.cells #[Value.slice a0 n0 c0, Value.slice a1 n1 c1] 31)).heap.size = w.heap.size + 1 := by rw [World.size_alloc]
  have hs2 : ((w.alloc (Obj.cells #[Value.slice a0 n0 c0, Value.slice a1 n1 c1] 31)).alloc (.cells #[] 3)).heap.size = (w.heap.size + 1 + 1) := by rw [World.size_alloc, World.size_alloc]
  have hA : ((w.alloc (Obj.cells #[Value.slice a0 n0 c0, Value.slice a1 n1 c1] 31)).alloc (.cells #[] 3)).ownsRow (w.alloc (Obj.cells #[Value.slice a0 n0 c0, Value.slice a1 n1 c1] 31)).heap.size 3 1 (.slice (some ⟨(w.alloc (Obj.cells #[Value.slice a0 n0 c0, Value.slice a1 n1 c1] 31)).heap.size, 0, none⟩) 0 0) 0 (([] : List Int).map (.int .i64)) := own_lit (w.alloc (Obj.cells #[Value.slice a0 n0 c0, Value.slice a1 n1 c1] 31)) 3 [] (by simp)
  rw [hs1] at hA
  have ML := Mk.alloc (w.alloc (Obj.cells #[Value.slice a0 n0 c0, Value.slice a1 n1 c1] 31)) (.cells #[] 3)
  replace k0 := ML.cellAt k0
  replace k1 := ML.cellAt k1
  have M1 := M0.trans ML
  go_enter Try.func26, Try.ntmps26
  go_wp2_with fail
  refine (implIfs a0 a1 n0 c0 n1 c1 B zl r _ (hl.mk M1 hB (.inr (Nat.le_refl _))) (Nat.le_trans hB M1.size) hn1).mono ?_
  rintro e w2 ⟨A, N, C, rfl, hAc, hO, b2⟩
  have m2 := Mk.of_below b2
  rw [hs2] at hO
  have hown0 := own_keptR hA m2
  have N2 := ML.trans m2
  have hN := hO.1
  have hNb : N ≤ 2097152 := by have h1 := ifsL_le zl n1 r; unfold ifsL at h1; omega
  have HR := Lib.hid (show ikL zl n1 r kd = ikUp zl n1 r kd (ifsL zl n1 r) N by unfold ikL; rw [← hN]; rfl)
  have HO := Lib.hid (show Own .i64 w2 (w.heap.size + 1 + 1) A N (ifsL zl n1 r) from hO)
  clear hO hN hA M1 ML b2 m2 k0 k1
  go_wp2_with fail
  go_loopw [7, 15] (fun v i wr => ∃ k : Nat, k ≤ N ∧ i = .int .i64 k ∧ wr.ownsRow (w.heap.size + 1) 3 1 v (ikUp zl n1 r kd (ifsL zl n1 r) k).length ((ikUp zl n1 r kd (ifsL zl n1 r) k).map (.int .i64)) ∧ Mk0 (w.alloc (Obj.cells #[Value.slice a0 n0 c0, Value.slice a1 n1 c1] 31)) wr ∧ Kp2 (w.heap.size + 1 + 1) w2.heap.size w2 wr ∧ OB (w.heap.size + 1 + 1) w2.heap.size v) (fun _ i _ => N - (intOf i).toNat)
  case atStart => exact ⟨0, Nat.zero_le _, rfl, hown0, N2, Kp2.refl _ _, fun g hg => .inl (by simp [Value.ownBlock] at hg; omega)⟩
  case round =>
    clear hown0
    obtain ⟨k, hk, rfl, hown, hM, hK, hOB⟩ := hrel
    have HOB := Lib.hid hOB
    have HKK := Lib.hid hK
    clear hOB hK
    have k0 := hM.cellAt K0.out
    have k1 := hM.cellAt K1.out
    have hM' := M0.trans hM
    have hlow := hM.size
    rw [hs1] at hlow
    have hul := ikUp_le zl n1 r kd (ifsL zl n1 r) k
    obtain ⟨L, hL⟩ : ∃ L, Hid (L = ikUp zl n1 r kd (ifsL zl n1 r) k) := ⟨_, Lib.hid rfl⟩
    rw [← hL.out] at hown hul
    by_cases hlt : k < N
    · have hH := HKK.out.has HO.out
      obtain ⟨b, off, z, rfl, hb, hz, ci⟩ := hH.at_ hlt
      clear hH
      have i1 : (0 : Int) ≤ (k : Int) := by omega
      have i2 : (k : Int) < (N : Int) := by omega
      obtain ⟨V, hV⟩ : ∃ V, Hid (V = kindOf zl r z n1) := ⟨_, Lib.hid rfl⟩
      cases ek : (V == kd)
      · have HE := Lib.hid (show ikUp zl n1 r kd (ifsL zl n1 r) (k + 1) = L by rw [ikUp, ← hz.out, ← hV.out, if_neg (by simp [ek]), hL.out])
        go_wp2_with fail
        refine (implKind a0 a1 n0 c0 n1 c1 B zl r z _ (hl.mk hM' hB (.inr (Nat.le_refl _))) (Nat.le_trans hB hM'.size) hn1).mono ?_
        rintro e wE ⟨rfl, mE⟩
        rw [← hV.out]
        replace ci := mE.cellAt ci
        go_wp2_with fail
        go_roundw
        case rel => exact ⟨k + 1, by omega, by go_num, by rw [HE.out]; exact own_keptR hown mE, hM.trans mE, HKK.out.mk mE, HOB.out⟩
        case measure => simp [intOf]; omega
      · have HE := Lib.hid (show ikUp zl n1 r kd (ifsL zl n1 r) (k + 1) = L ++ [z] by rw [ikUp, ← hz.out, ← hV.out, if_pos ek, hL.out])
        go_wp2_with fail
        refine (implKind a0 a1 n0 c0 n1 c1 B zl r z _ (hl.mk hM' hB (.inr (Nat.le_refl _))) (Nat.le_trans hB hM'.size) hn1).mono ?_
        rintro e wE ⟨rfl, mE⟩
        rw [← hV.out]
        replace ci := mE.cellAt ci
        have hn1' := has_new .i64 wE 3 z
        have MA := Mk.alloc wE (.cells #[.int .i64 z] 3)
        have ho' := own_keptR (own_keptR hown mE) MA
        have hsE := mE.size
        have hlo' : w.heap.size + 1 ≤ (wE.alloc (.cells #[.int .i64 z] 3)).heap.size := by rw [World.size_alloc]; omega
        go_wp2_with (at_builtin; refine wpList_app rfl (.tmp 25) (.tmp 27) 35 rfl _ 3 i0 Try.underlying35 hi hz0 hz1 hby _ L L.length rfl ho' _ 1 1 [z] rfl (fun h => by cases h) hn1' (by omega) hlo' ?_; intro v3 w3 ho3 hg3 hat3)
        have M3 := (hM.trans (mE.trans MA)).appR hg3 (fun g hg => by have := (ho'.lt g hg).1; rw [hs1]; omega)
        have K3 := Lib.hid ((HKK.out.mk (mE.trans MA)).grow hg3 HOB.out)
        have B3 := Lib.hid (show OB (w.heap.size + 1 + 1) w2.heap.size v3 from fun g hg => by exact hat3.elim (fun h => HOB.out g (h.symm.trans hg)) (fun h => .inr (by rw [hg] at h; simp only [Option.some.injEq] at h; subst h; exact (HKK.out.mk (mE.trans MA)).1)))
        clear hat3
        go_wp2_with fail
        go_roundw
        case rel => exact ⟨k + 1, by omega, by go_num, by rw [HE.out, List.length_append]; exact ho3, M3, K3.out, B3.out⟩
        case measure => simp [intOf]; omega
    · obtain rfl : k = N := by omega
      obtain ⟨A3, C3, rfl, hA3, hN3⟩ := ownsRow_sliceR2 hown
      have hO3 := ownsRow_own hown
      go_wp2_with fail
      go_ret
      exact ⟨A3, _, C3, rfl, hA3, by rw [HR.out, ← hL.out]; exact hO3.low (Nat.le_succ _), hM'.below0⟩

end Go.Proofs.Ytjlglppknemffaa
