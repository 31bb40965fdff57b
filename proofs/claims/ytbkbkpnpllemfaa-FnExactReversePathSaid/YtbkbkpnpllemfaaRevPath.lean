
/- ReversePath of both sides. -/
import Derived.Test.YtbkbkpnpllemfaaRevPt
import Derived.Test.YtbkbkpnpllemfaaMnPath
import Derived.Test.YtbkbkpnpllemfaaTdPathPart
namespace Go.Proofs.Ytbkbkpnpllemfaa
open Go.ChangeShapes Go.WideShapes Go.ChangeAt Go.RowKit
set_option linter.unusedVariables false
def turnPt (x : TPathPart) : TPathPart := ⟨rkV x.kind, x.ts, afterV x.kind x.beta x.hops x.hops.length (x.hops.length : Int), turnP x.hops x.hops.length⟩
theorem turnPt_se (x : TPathPart) : sePathPart (turnPt x) = sePathPart x := by
  unfold sePathPart turnPt turnP
  show (turnL (fun x => x) x.hops x.hops.length).length = _
  exact turnL_len _ _ _
theorem turnPt_sum (zs : List TPathPart) (n : Nat) : sumTo sePathPart (turnL turnPt zs n) n = sumTo sePathPart zs n := by
  have h : ∀ k, k ≤ n → sumTo sePathPart (turnL turnPt zs n) k + sumTo sePathPart zs (n - k) = sumTo sePathPart zs n := by
    intro k
    induction k with
    | zero => intro _; simp [sumTo]
    | succ k ih =>
      intro hk
      have h1 := ih (by omega)
      rw [sumTo, turnL_at _ _ _ _ (by omega), turnPt_se]
      have h2 : n - k = (n - 1 - k) + 1 := by omega
      rw [h2, sumTo] at h1
      rw [show n - (k + 1) = n - 1 - k by omega]
      omega
  have := h n (Nat.le_refl _)
  rw [Nat.sub_self] at this
  simpa [sumTo] using this
theorem turnPt_sz (zs : List TPathPart) (n : Nat) : szPathPart (turnL turnPt zs n) n = szPathPart zs n := by unfold szPathPart; rw [turnPt_sum]
set_option maxRecDepth 100000 in
set_option maxHeartbeats 8000000 in
theorem specRevPath (a : Option Addr) (n c B : Nat) (zs : List TPathPart) (w : World) (h : HasPathPart w B a n zs) (hB : B ≤ w.heap.size) (hs : szPathPart zs n ≤ 1048576) (hnc : n ≤ c) :
    Calls Try.prog 34 #[.agg #[.slice a n c]] w (OutNPath (turnL turnPt zs n) w) := by
  have M0 : Mk0 w ((w.alloc (Obj.cells #[Value.slice a n c] 42)).alloc (Obj.cells #[Value.slice none 0 0] 42)) := ((Mk.alloc w (Obj.cells #[Value.slice a n c] 42)).new (Obj.cells #[Value.slice none 0 0] 42))
  have k0 : ((w.alloc (Obj.cells #[Value.slice a n c] 42)).alloc (Obj.cells #[Value.slice none 0 0] 42)).cell? ⟨w.heap.size, 0, none⟩ = some (.slice a n c) := by simp [go_sem]
  have r0 : ((w.alloc (Obj.cells #[Value.slice a n c] 42)).alloc (Obj.cells #[Value.slice none 0 0] 42)).cell? ⟨w.heap.size + 1, 0, none⟩ = some (.slice none 0 0) := by simp [go_sem]
  have hs0 : ((w.alloc (Obj.cells #[Value.slice a n c] 42)).alloc (Obj.cells #[Value.slice none 0 0] 42)).heap.size = w.heap.size + 1 + 1 := by simp only [World.size_alloc]
  have hn : n ≤ 1048576 := Nat.le_trans (szPathPart_n zs n) hs
  obtain ⟨i0, hi0, hz0, hz1, hz2⟩ := info_parts infoRPathPart
  have K0 := Lib.hid k0
  have R0 := Lib.hid r0
  have FR : Hid (∀ q, ((w.alloc (Obj.cells #[Value.slice a n c] 42)).alloc (Obj.cells #[Value.slice none 0 0] 42)).frozen? ⟨w.heap.size + 1, q, none⟩ = false) := Lib.hid (fun q => by simp [go_sem])
  clear k0 r0
  go_enter Try.func34, Try.ntmps34
  go_wp2_with fail
  have q0 : (((w.alloc (Obj.cells #[Value.slice a n c] 42)).alloc (Obj.cells #[Value.slice none 0 0] 42)).alloc (Obj.cells #[Value.slice none 0 0] 42)).cell? ⟨w.heap.size + 1 + 1, 0, none⟩ = some (.slice none 0 0) := by simp [go_sem]
  have fq : ∀ q, (((w.alloc (Obj.cells #[Value.slice a n c] 42)).alloc (Obj.cells #[Value.slice none 0 0] 42)).alloc (Obj.cells #[Value.slice none 0 0] 42)).frozen? ⟨w.heap.size + 1 + 1, q, none⟩ = false := fun q => by simp [go_sem]
  have ML : Mk0 ((w.alloc (Obj.cells #[Value.slice a n c] 42)).alloc (Obj.cells #[Value.slice none 0 0] 42)) (((w.alloc (Obj.cells #[Value.slice a n c] 42)).alloc (Obj.cells #[Value.slice none 0 0] 42)).alloc (Obj.cells #[Value.slice none 0 0] 42)) := Mk.alloc _ _
  have hsL : w.heap.size + 1 + 1 + 1 ≤ (((w.alloc (Obj.cells #[Value.slice a n c] 42)).alloc (Obj.cells #[Value.slice none 0 0] 42)).alloc (Obj.cells #[Value.slice none 0 0] 42)).heap.size := by rw [World.size_alloc, hs0]; exact Nat.le_refl _
  generalize (((w.alloc (Obj.cells #[Value.slice a n c] 42)).alloc (Obj.cells #[Value.slice none 0 0] 42)).alloc (Obj.cells #[Value.slice none 0 0] 42)) = wL at *
  generalize ((w.alloc (Obj.cells #[Value.slice a n c] 42)).alloc (Obj.cells #[Value.slice none 0 0] 42)) = wb at *
  go_loopw [4] (fun i wr => ∃ (k : Nat) (A : Option Addr) (C : Nat) (gs : List HPathPart), k ≤ n ∧ i = .int .i64 ((n : Int) - 1 - (k : Int)) ∧ (wr.cell? ⟨w.heap.size + 1 + 1, 0, none⟩ = some (.slice A k C) ∧ ∀ q, wr.frozen? ⟨w.heap.size + 1 + 1, q, none⟩ = false) ∧ wr.ownsRow (w.heap.size + 1 + 1 + 1) 35 4 (.slice A k C) k (rowC 4 HPathPart.cell gs) ∧ Hid (Kids WPathPart wr (w.heap.size + 1 + 1 + 1) wr.heap.size (fun g => (Value.slice A k C).ownBlock = some g) k gs ((turnL turnPt zs n).take k)) ∧ Mk0 wb wr ∧ w.heap.size + 1 + 1 + 1 ≤ wr.heap.size) (fun i _ => (intOf i + 1).toNat)
  case atStart => exact ⟨0, none, 0, [], Nat.zero_le _, by simp, ⟨q0, fq⟩, own_nilR _ _ _ _, Kids.none_ _ _ _ _ _ _ _, ML, hsL⟩
  case round =>
    clear q0 fq ML hsL
    obtain ⟨k, A, C, gs, hk, rfl, ⟨q0, fq⟩, hown, hK, hM, hsz⟩ := hrel
    have k0 := hM.cellAt K0.out
    have hMW := M0.trans hM
    by_cases hlt : k < n
    · obtain ⟨m, hm⟩ : ∃ m, Hid (n = m + k + 1) := ⟨n - 1 - k, by show n = n - 1 - k + k + 1; omega⟩
      have hmn : m < n := by have := hm.out; omega
      rw [show (n : Int) - 1 - (k : Int) = (m : Int) by have := hm.out; omega]
      obtain ⟨b, off, x, rfl, hb, hx, a3, n3, c3, c0, c1, c2, c3', hr, p1, p2, p3⟩ := HasPathPart.at _ _ _ _ _ _ (h.mk hMW hB (.inr (Nat.le_refl _))) hmn
      have hn3 : x.hops.length = n3 := hr.1
      have hn3b : n3 ≤ 1048576 := by have h1 := szPathPart_at zs hmn; rw [← hx.out] at h1; unfold sePathPart at h1; omega
      have hbr := World.block_lt_of_cell? _ _ c0
      simp only at hbr
      have HT := Lib.hid (show (turnL turnPt zs n).take (k + 1) = (turnL turnPt zs n).take k ++ [turnPt x] by rw [turnL_take _ _ _ _ hlt, hx.out, show n - 1 - k = m by have := hm.out; omega])
      have HX : Hid (turnPt x = ⟨rkV x.kind, x.ts, afterV x.kind x.beta x.hops n3 (n3 : Int), turnP x.hops n3⟩) := by subst hn3; exact Lib.hid rfl
      obtain ⟨β, hβ⟩ : ∃ β, Hid (β = afterV x.kind x.beta x.hops n3 (n3 : Int)) := ⟨_, Lib.hid rfl⟩
      have KP := specRevPt x.kind x.ts x.beta a3 n3 c3 _ x.hops wr hr (Nat.le_trans hB hMW.size) hn3b p1
      rw [← hβ.out] at KP HX
      have i1 : (0 : Int) ≤ (m : Int) := by omega
      have i2 : (m : Int) < (n : Int) := by omega
      go_wp2_with fail
      refine KP.mono ?_
      rintro e w2 ⟨A3, N3, C3, rfl, hc3, hO3, m2⟩
      clear KP
      have mA := Mk.alloc w2 (Obj.cells #[Value.int .i64 (rkV x.kind), Value.int .i64 x.ts, Value.int .i64 β, Value.slice A3 N3 C3] 35)
      have mB := Mk.alloc (w2.alloc (Obj.cells #[Value.int .i64 (rkV x.kind), Value.int .i64 x.ts, Value.int .i64 β, Value.slice A3 N3 C3] 35)) (Obj.cells #[.int .i64 (rkV x.kind), .int .i64 x.ts, .int .i64 β, .slice A3 N3 C3] 35)
      have mY := (m2.trans mA).trans mB
      replace q0 := (m2.trans mA).cellAt q0
      have fqB : ∀ q, wr.frozen? ⟨w.heap.size + 1 + 1, q, none⟩ = false := fq
      replace fq := fun q => (mY.frozen (b := w.heap.size + 1 + 1) (o := q) (by omega) (.inr (Nat.zero_le _))).trans (fq q)
      have e0 : (w2.alloc (Obj.cells #[Value.int .i64 (rkV x.kind), Value.int .i64 x.ts, Value.int .i64 β, Value.slice A3 N3 C3] 35)).cell? ⟨w2.heap.size, 0, none⟩ = some (.int .i64 (rkV x.kind)) := by simp [go_sem]
      have e1 : (w2.alloc (Obj.cells #[Value.int .i64 (rkV x.kind), Value.int .i64 x.ts, Value.int .i64 β, Value.slice A3 N3 C3] 35)).cell? ⟨w2.heap.size, 1, none⟩ = some (.int .i64 x.ts) := by simp [go_sem]
      have e2 : (w2.alloc (Obj.cells #[Value.int .i64 (rkV x.kind), Value.int .i64 x.ts, Value.int .i64 β, Value.slice A3 N3 C3] 35)).cell? ⟨w2.heap.size, 2, none⟩ = some (.int .i64 β) := by simp [go_sem]
      have e3 : (w2.alloc (Obj.cells #[Value.int .i64 (rkV x.kind), Value.int .i64 x.ts, Value.int .i64 β, Value.slice A3 N3 C3] 35)).cell? ⟨w2.heap.size, 3, none⟩ = some (.slice A3 N3 C3) := by simp [go_sem]
      have hown2 := own_keptR hown mY
      have hszY := mY.size
      have hh := hasR_new (cell := HPathPart.cell) (nc := 4) (by decide) (w2.alloc (Obj.cells #[Value.int .i64 (rkV x.kind), Value.int .i64 x.ts, Value.int .i64 β, Value.slice A3 N3 C3] 35)) 35 (⟨rkV x.kind, x.ts, β, A3, N3, C3⟩ : HPathPart) #[.int .i64 (rkV x.kind), .int .i64 x.ts, .int .i64 β, .slice A3 N3 C3] (fun j hj => by match j, hj with | 0, _ => rfl | 1, _ => rfl | 2, _ => rfl | 3, _ => rfl)
      rw [World.size_alloc w2] at hh
      have hlo : w.heap.size + 1 + 1 + 1 ≤ ((w2.alloc (Obj.cells #[Value.int .i64 (rkV x.kind), Value.int .i64 x.ts, Value.int .i64 β, Value.slice A3 N3 C3] 35)).alloc (Obj.cells #[.int .i64 (rkV x.kind), .int .i64 x.ts, .int .i64 β, .slice A3 N3 C3] 35)).heap.size := Nat.le_trans hsz hszY
      have q0' := mB.cellAt q0
      have hK2 := Lib.hid ((((hK.out.mk m2 (Nat.le_refl _) (.inr (.inr (Nat.le_refl _)))).snoc (g := (⟨rkV x.kind, x.ts, β, A3, N3, C3⟩ : HPathPart)) (x := turnPt x) (ownsRow_lenR (by decide) hown) (by simp [turnL_len]; omega) hsz m2.size (by rw [HX.out]; exact ⟨rfl, rfl, rfl, hO3, hc3.2.1, hc3.2.2, hc3.1⟩) (Nat.le_refl _) (fun q hq => .inl (hown.lt q hq).2)).mk mA (Nat.le_refl _) (.inr (.inr (Nat.le_refl _)))).mk mB mA.size (.inr (.inr (Nat.le_refl _))))
      clear hO3 hK hown
      go_wp2_with (at_builtin; refine wpList_appR4 (by decide) onePathPart rfl (.tmp 22) (.tmp 24) 40 rfl (w.heap.size + 1 + 1 + 1) 35 i0 _ Try.underlying40 hi0 hz0 rfl hz1 (by rw [hz2]; decide) _ gs k rfl hown2 _ 1 1 [(⟨rkV x.kind, x.ts, β, A3, N3, C3⟩ : HPathPart)] rfl (fun h => by cases h) hh (by omega) hlo ?_; intro v2 w4 hown4 hgr hat; have hne : ∀ q, (Value.slice A k C).ownBlock = some q → q ≠ w.heap.size + 1 + 1 := fun q e => (by have := (hown2.lt q e).1; omega); have p3 := grown_cell q0' hgr hne; have pf := fun q => grown_frz (fq q) (World.block_lt_of_cell? _ _ q0') hgr hne; obtain ⟨A2, C2, rfl, hca2, hcb2⟩ := ownsRow_sliceR2 hown4)
      have M4 := (hM.trans mY).appR hgr (fun g hg => by have := (hown2.lt g hg).1; omega)
      have z4 := hgr.size
      have zA := mA.size
      have zB := mB.size
      have hK4 := hK2.out.grow hgr (Nat.le_trans mA.size mB.size) hat
      clear hK2 hat
      go_roundw
      case rel => exact ⟨k + 1, A2, C2, gs ++ [(⟨rkV x.kind, x.ts, β, A3, N3, C3⟩ : HPathPart)], by omega, congrArg (Value.int .i64) (by have := hm.out; omega), ⟨World.cell?_setCell_same _ _ _ p3, fun q => frozen_set (pf q) _ _⟩, own_put hown4 _ _ (Nat.lt_succ_self _), by rw [HT.out]; exact Lib.hid ((hK4.set _ _ (.inr (.inl (Nat.lt_succ_self _)))).wide (Nat.le_refl _) (by simp only [World.size_set]; omega)), M4.put _ _ (by rw [hs0]; exact Nat.le_refl _), by simp only [World.size_set]; omega⟩
      case measure => first | (simp [intOf]; done) | (simp [intOf]; omega)
    · obtain rfl : k = n := by omega
      rw [show (k : Int) - 1 - (k : Int) = -1 by omega]
      have r0 := hM.cellAt R0.out
      have hbQ := hM.size
      have fr : ∀ q, wr.frozen? ⟨w.heap.size + 1, q, none⟩ = false := fun q => (hM.frozen (b := w.heap.size + 1) (o := q) (by omega) (.inr (Nat.zero_le _))).trans (FR.out q)
      have ht : (turnL turnPt zs k).take k = turnL turnPt zs k := List.take_of_length_le (by rw [turnL_len]; exact Nat.le_refl _)
      rw [ht] at hK
      obtain ⟨_, _, e9, hca, hcb⟩ := ownsRow_sliceR2 hown
      cases e9
      have HO := Lib.hid (OwnN.of_row hown hK.out (turnL_len _ _ _) (Nat.le_refl _))
      clear hK hown
      go_wp2_with fail
      replace r0 := World.cell?_setCell_same _ _ (.slice A k C) r0
      refine bodyPost_ret (v := .agg #[.slice A k C]) (by simp [results, Try.results34, go_sem, r0]) rfl ⟨A, k, C, rfl, ⟨hca, hcb⟩, ?_, hMW.put _ _ (by simp)⟩
      exact (HO.out.set ⟨w.heap.size + 1, 0, none⟩ (.slice A k C) (.inl (by simp only; omega))).wide (by omega) (by simp only [World.size_set]; exact Nat.le_refl _)

set_option maxRecDepth 100000 in
set_option maxHeartbeats 8000000 in
theorem implRevPath (a : Option Addr) (n c B : Nat) (zs : List TPathPart) (w : World) (h : HasPathPart w B a n zs) (hB : B ≤ w.heap.size) (hs : szPathPart zs n ≤ 1048576) (hnc : n ≤ c) :
    Calls Try.prog 36 #[.agg #[.slice a n c]] w (OutNPath (turnL turnPt zs n) w) := by
  have M0 : Mk0 w ((w.alloc (Obj.cells #[Value.slice a n c] 42)).alloc (Obj.cells #[Value.slice none 0 0] 42)) := ((Mk.alloc w (Obj.cells #[Value.slice a n c] 42)).new (Obj.cells #[Value.slice none 0 0] 42))
  have k0 : ((w.alloc (Obj.cells #[Value.slice a n c] 42)).alloc (Obj.cells #[Value.slice none 0 0] 42)).cell? ⟨w.heap.size, 0, none⟩ = some (.slice a n c) := by simp [go_sem]
  have r0 : ((w.alloc (Obj.cells #[Value.slice a n c] 42)).alloc (Obj.cells #[Value.slice none 0 0] 42)).cell? ⟨w.heap.size + 1, 0, none⟩ = some (.slice none 0 0) := by simp [go_sem]
  have hs0 : ((w.alloc (Obj.cells #[Value.slice a n c] 42)).alloc (Obj.cells #[Value.slice none 0 0] 42)).heap.size = w.heap.size + 1 + 1 := by simp only [World.size_alloc]
  have FR : ∀ q, ((w.alloc (Obj.cells #[Value.slice a n c] 42)).alloc (Obj.cells #[Value.slice none 0 0] 42)).frozen? ⟨w.heap.size + 1, q, none⟩ = false := fun q => by simp [go_sem]
  go_enter Try.func36, Try.ntmps36
  go_wp2_with fail
  generalize ((w.alloc (Obj.cells #[Value.slice a n c] 42)).alloc (Obj.cells #[Value.slice none 0 0] 42)) = wb at *
  refine (turnedPathPart turnPt 68 a n c B zs wb (h.mk M0 hB (.inr (Nat.le_refl _))) (Nat.le_trans hB M0.size) hs (fun _ _ _ _ _ => rfl) (fun x a3 n3 c3 B1 w1 hr hB1 hb p1 p2 p3 => ?_)).mono ?_
  · obtain rfl := hr.1
    exact implRevPt x.kind x.ts x.beta a3 _ c3 B1 x.hops w1 hr hB1 hb p1
  · rintro e w2 ⟨A, N, C, rfl, hc, hO, m2⟩
    replace r0 := m2.cellAt r0
    have fr2 : ∀ q, w2.frozen? ⟨w.heap.size + 1, q, none⟩ = false := fun q => (m2.frozen (b := w.heap.size + 1) (o := q) (by omega) (.inr (Nat.zero_le _))).trans (FR q)
    have MF := M0.trans m2
    go_wp2_with fail
    replace r0 := World.cell?_setCell_same _ _ (.slice A N C) r0
    refine bodyPost_ret (v := .agg #[.slice A N C]) (by simp [results, Try.results36, go_sem, r0]) rfl ⟨A, N, C, rfl, hc, ?_, MF.put _ _ (by simp)⟩
    exact (hO.set ⟨w.heap.size + 1, 0, none⟩ (.slice A N C) (.inl (by simp only; omega))).wide (by omega) (by simp only [World.size_set]; exact Nat.le_refl _)

end Go.Proofs.Ytbkbkpnpllemfaa
