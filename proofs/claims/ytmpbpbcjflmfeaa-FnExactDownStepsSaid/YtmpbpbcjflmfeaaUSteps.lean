
/- The steps that leave by an interface of a kind, of both sides. -/
import Derived.Test.YtmpbpbcjflmfeaaStepI
import Derived.Test.YtmpbpbcjflmfeaaStepS
import Derived.Test.YtmpbpbcjflmfeaaKindOf
import Derived.Test.YtmpbpbcjflmfeaaCTopology
import Derived.Deep.RegionWith
import Derived.RegionTactic
namespace Go.Proofs.Ytmpbpbcjflmfeaa
open Go.ChangeShapes Go.WideShapes Go.ChangeAt Go.RowKit
set_option linter.unusedVariables false
def cntSt (zs : List TLink) (n1 : Nat) (kd : Int) (l : List TStep) : Nat → Nat
  | 0 => 0
  | k + 1 => if (kindOf zs (l.getD k default).nd (l.getD k default).eg n1 == kd) = true then cntSt zs n1 kd l k + 1 else cntSt zs n1 kd l k
theorem cntSt_le (zs : List TLink) (n1 : Nat) (kd : Int) (l : List TStep) : ∀ k, cntSt zs n1 kd l k ≤ k
  | 0 => Nat.le_refl _
  | k + 1 => by
    have := cntSt_le zs n1 kd l k
    rw [cntSt]
    split <;> omega
def cntAll (zs : List TLink) (n1 : Nat) (kd : Int) (ps : List TPathPart) (n : Nat) : Nat := cntSt zs n1 kd (pathSt ps n) (pathSt ps n).length
set_option maxRecDepth 100000 in
set_option maxHeartbeats 4000000 in
theorem specCnt (a0 a1 : Option Addr) (n0 c0 n1 c1 B' : Nat) (zs : List TLink) (a : Option Addr) (n c B : Nat) (ps : List TPathPart) (kd : Int) (w : World) (hl : HasLink w B' a1 n1 zs) (hB' : B' ≤ w.heap.size) (hn1 : n1 ≤ 1048576) (h : HasPathPart w B a n ps) (hB : B ≤ w.heap.size) (hn : szPathPart ps n ≤ 1048576) :
    Calls Try.prog 74 #[.agg #[.slice a0 n0 c0, .slice a1 n1 c1], .agg #[.slice a n c], .int .i64 kd] w fun e w' => e = .returned (.int .i64 ((cntAll zs n1 kd ps n : Nat) : Int)) ∧ Mk0 w w' := by
  have M0 := (Mk.alloc w (Obj.cells #[Value.slice a0 n0 c0, Value.slice a1 n1 c1] 51)).new (Obj.cells #[Value.slice a n c] 30)
  have k0 : ((w.alloc (Obj.cells #[Value.slice a0 n0 c0, Value.slice a1 n1 c1] 51)).alloc (Obj.cells #[Value.slice a n c] 30)).cell? ⟨w.heap.size, 0, none⟩ = some (.slice a0 n0 c0) := by simp [go_sem]
  have k1 : ((w.alloc (Obj.cells #[Value.slice a0 n0 c0, Value.slice a1 n1 c1] 51)).alloc (Obj.cells #[Value.slice a n c] 30)).cell? ⟨w.heap.size, 1, none⟩ = some (.slice a1 n1 c1) := by simp [go_sem]
  go_enter Try.func74, Try.ntmps74
  go_wp2_with fail
  refine (specPathSteps a n c B ps _ (h.mk M0 hB (.inr (Nat.le_refl _))) (Nat.le_trans hB M0.size) hn).mono ?_
  rintro e w2 ⟨A, N, cc, rfl, hcc, oo, m2⟩
  replace k0 := m2.cellAt k0
  replace k1 := m2.cellAt k1
  have M2 := M0.trans m2
  have HN := Lib.hid oo.1
  have hNle : N ≤ 1048576 := by have := pathSt_le ps n; have := oo.1; omega
  have HR := Lib.hid (show cntAll zs n1 kd ps n = cntSt zs n1 kd (pathSt ps n) N by unfold cntAll; rw [oo.1])
  go_wp2_with fail
  go_loopw [7, 9] (fun v i wr => ∃ k : Nat, k ≤ N ∧ i = .int .i64 k ∧ v = .int .i64 ((cntSt zs n1 kd (pathSt ps n) k : Nat) : Int) ∧ Mk0 w2 wr) (fun _ i _ => N - (intOf i).toNat)
  case atStart => exact ⟨0, Nat.zero_le _, rfl, rfl, Mk.refl _ _ _⟩
  case round =>
    obtain ⟨k, hk, rfl, rfl, hM⟩ := hrel
    have hM' := M2.trans hM
    have q0 := hM.cellAt k0
    have q1 := hM.cellAt k1
    have hcl := cntSt_le zs n1 kd (pathSt ps n) k
    obtain ⟨V, hV⟩ : ∃ V, Hid (V = cntSt zs n1 kd (pathSt ps n) k) := ⟨_, rfl⟩
    rw [← hV.out] at hcl ⊢
    by_cases hlt : k < N
    · obtain ⟨b, off, y, rfl, hb, hx, c0', c1', c2'⟩ := HasStep.at _ _ _ _ _ _ (oo.has.mk hM (Nat.le_refl _) (.inr (Nat.le_refl _))) hlt
      have hbr := World.block_lt_of_cell? _ _ c0'
      simp only at hbr
      have hbq := World.block_lt_of_cell? _ _ q0
      simp only at hbq
      cases hr : (kindOf zs y.nd y.eg n1 == kd)
      · have HE := Lib.hid (show cntSt zs n1 kd (pathSt ps n) (k + 1) = V by rw [cntSt, ← hx.out, hr, ← hV.out]; rfl)
        have HK := Lib.hid hr
        clear hr
        go_wp2_with fail
        go_region_with (go_at_call 103; refine (specKind a0 a1 n0 c0 n1 c1 B' zs y.nd y.eg _ ((hl.mk hM' hB' (.inr (Nat.le_refl _))).mk (Mk.drew1 _) (Nat.le_trans hB' hM'.size) (.inr (Nat.le_refl _))) (Nat.le_trans hB' hM'.size) hn1).mono ?_; rintro e w3 ⟨he, m3⟩; obtain ⟨K, hK⟩ : ∃ K, Hid (K = kindOf zs y.nd y.eg n1) := ⟨_, rfl⟩; rw [← hK.out] at he HK; subst he; have hq := HK.out)
        all_goals (
          have m4 : Mk0 wr w3 := ⟨m3.os, m3.tape, m3.output, m3.size, m3.block⟩
          clear m3
          refine ‹∀ (a : Act) (w : World), _ → _› _ _ ?_
          go_wp2_with fail
          go_roundw
          case rel => exact ⟨k + 1, by omega, by go_num, congrArg (Value.int .i64) (by first | (rw [HE.out]; done) | (rw [HE.out]; omega)), hM.trans m4⟩
          case measure => simp [intOf]; omega)
      · have HE := Lib.hid (show cntSt zs n1 kd (pathSt ps n) (k + 1) = V + 1 by rw [cntSt, ← hx.out, hr, ← hV.out]; rfl)
        have HK := Lib.hid hr
        clear hr
        go_wp2_with fail
        go_region_with (go_at_call 103; refine (specKind a0 a1 n0 c0 n1 c1 B' zs y.nd y.eg _ ((hl.mk hM' hB' (.inr (Nat.le_refl _))).mk (Mk.drew1 _) (Nat.le_trans hB' hM'.size) (.inr (Nat.le_refl _))) (Nat.le_trans hB' hM'.size) hn1).mono ?_; rintro e w3 ⟨he, m3⟩; obtain ⟨K, hK⟩ : ∃ K, Hid (K = kindOf zs y.nd y.eg n1) := ⟨_, rfl⟩; rw [← hK.out] at he HK; subst he; have hq := HK.out)
        all_goals (
          have m4 : Mk0 wr w3 := ⟨m3.os, m3.tape, m3.output, m3.size, m3.block⟩
          clear m3
          refine ‹∀ (a : Act) (w : World), _ → _› _ _ ?_
          go_wp2_with fail
          go_roundw
          case rel => exact ⟨k + 1, by omega, by go_num, congrArg (Value.int .i64) (by first | (rw [HE.out]; done) | (rw [HE.out]; omega)), hM.trans m4⟩
          case measure => simp [intOf]; omega)
    · obtain rfl : k = N := by omega
      go_wp2_with fail
      go_ret
      exact ⟨retI (by rw [HR.out, hV.out]), hM'⟩

set_option maxRecDepth 100000 in
set_option maxHeartbeats 4000000 in
theorem specUpSteps (a0 a1 : Option Addr) (n0 c0 n1 c1 B' : Nat) (zs : List TLink) (a : Option Addr) (n c B : Nat) (ps : List TPathPart) (w : World) (hl : HasLink w B' a1 n1 zs) (hB' : B' ≤ w.heap.size) (hn1 : n1 ≤ 1048576) (h : HasPathPart w B a n ps) (hB : B ≤ w.heap.size) (hn : szPathPart ps n ≤ 1048576) :
    Calls Try.prog 38 #[.agg #[.slice a0 n0 c0, .slice a1 n1 c1], .agg #[.slice a n c]] w fun e w' => e = .returned (.int .i64 ((cntAll zs n1 3 ps n : Nat) : Int)) ∧ Mk0 w w' := by
  have M0 := (Mk.alloc w (Obj.cells #[Value.slice a0 n0 c0, Value.slice a1 n1 c1] 51)).new (Obj.cells #[Value.slice a n c] 30)
  go_enter Try.func38, Try.ntmps38
  go_wp2_with fail
  refine (specCnt a0 a1 n0 c0 n1 c1 B' zs a n c B ps 3 _ (hl.mk M0 hB' (.inr (Nat.le_refl _))) (Nat.le_trans hB' M0.size) hn1 (h.mk M0 hB (.inr (Nat.le_refl _))) (Nat.le_trans hB M0.size) hn).mono ?_
  rintro e w2 ⟨rfl, m2⟩
  go_wp2_with fail
  go_ret
  exact ⟨rfl, M0.trans m2⟩

set_option maxRecDepth 100000 in
set_option maxHeartbeats 4000000 in
theorem specDownSteps (a0 a1 : Option Addr) (n0 c0 n1 c1 B' : Nat) (zs : List TLink) (a : Option Addr) (n c B : Nat) (ps : List TPathPart) (w : World) (hl : HasLink w B' a1 n1 zs) (hB' : B' ≤ w.heap.size) (hn1 : n1 ≤ 1048576) (h : HasPathPart w B a n ps) (hB : B ≤ w.heap.size) (hn : szPathPart ps n ≤ 1048576) :
    Calls Try.prog 40 #[.agg #[.slice a0 n0 c0, .slice a1 n1 c1], .agg #[.slice a n c]] w fun e w' => e = .returned (.int .i64 ((cntAll zs n1 2 ps n : Nat) : Int)) ∧ Mk0 w w' := by
  have M0 := (Mk.alloc w (Obj.cells #[Value.slice a0 n0 c0, Value.slice a1 n1 c1] 51)).new (Obj.cells #[Value.slice a n c] 30)
  go_enter Try.func40, Try.ntmps40
  go_wp2_with fail
  refine (specCnt a0 a1 n0 c0 n1 c1 B' zs a n c B ps 2 _ (hl.mk M0 hB' (.inr (Nat.le_refl _))) (Nat.le_trans hB' M0.size) hn1 (h.mk M0 hB (.inr (Nat.le_refl _))) (Nat.le_trans hB M0.size) hn).mono ?_
  rintro e w2 ⟨rfl, m2⟩
  go_wp2_with fail
  go_ret
  exact ⟨rfl, M0.trans m2⟩

set_option maxRecDepth 100000 in
set_option maxHeartbeats 4000000 in
theorem specCoreSteps (a0 a1 : Option Addr) (n0 c0 n1 c1 B' : Nat) (zs : List TLink) (a : Option Addr) (n c B : Nat) (ps : List TPathPart) (w : World) (hl : HasLink w B' a1 n1 zs) (hB' : B' ≤ w.heap.size) (hn1 : n1 ≤ 1048576) (h : HasPathPart w B a n ps) (hB : B ≤ w.heap.size) (hn : szPathPart ps n ≤ 1048576) :
    Calls Try.prog 42 #[.agg #[.slice a0 n0 c0, .slice a1 n1 c1], .agg #[.slice a n c]] w fun e w' => e = .returned (.int .i64 ((cntAll zs n1 1 ps n : Nat) : Int)) ∧ Mk0 w w' := by
  have M0 := (Mk.alloc w (Obj.cells #[Value.slice a0 n0 c0, Value.slice a1 n1 c1] 51)).new (Obj.cells #[Value.slice a n c] 30)
  go_enter Try.func42, Try.ntmps42
  go_wp2_with fail
  refine (specCnt a0 a1 n0 c0 n1 c1 B' zs a n c B ps 1 _ (hl.mk M0 hB' (.inr (Nat.le_refl _))) (Nat.le_trans hB' M0.size) hn1 (h.mk M0 hB (.inr (Nat.le_refl _))) (Nat.le_trans hB M0.size) hn).mono ?_
  rintro e w2 ⟨rfl, m2⟩
  go_wp2_with fail
  go_ret
  exact ⟨rfl, M0.trans m2⟩

set_option maxRecDepth 100000 in
set_option maxHeartbeats 4000000 in
theorem implCnt (a0 a1 : Option Addr) (n0 c0 n1 c1 B' : Nat) (zs : List TLink) (a : Option Addr) (n c B : Nat) (ps : List TPathPart) (kd : Int) (w : World) (hl : HasLink w B' a1 n1 zs) (hB' : B' ≤ w.heap.size) (hn1 : n1 ≤ 1048576) (h : HasPathPart w B a n ps) (hB : B ≤ w.heap.size) (hn : szPathPart ps n ≤ 1048576) :
    Calls Try.prog 75 #[.agg #[.slice a0 n0 c0, .slice a1 n1 c1], .agg #[.slice a n c], .int .i64 kd] w fun e w' => e = .returned (.int .i64 ((cntAll zs n1 kd ps n : Nat) : Int)) ∧ Mk0 w w' := by
  have M0 := (Mk.alloc w (Obj.cells #[Value.slice a0 n0 c0, Value.slice a1 n1 c1] 51)).new (Obj.cells #[Value.slice a n c] 30)
  have k0 : ((w.alloc (Obj.cells #[Value.slice a0 n0 c0, Value.slice a1 n1 c1] 51)).alloc (Obj.cells #[Value.slice a n c] 30)).cell? ⟨w.heap.size, 0, none⟩ = some (.slice a0 n0 c0) := by simp [go_sem]
  have k1 : ((w.alloc (Obj.cells #[Value.slice a0 n0 c0, Value.slice a1 n1 c1] 51)).alloc (Obj.cells #[Value.slice a n c] 30)).cell? ⟨w.heap.size, 1, none⟩ = some (.slice a1 n1 c1) := by simp [go_sem]
  go_enter Try.func75, Try.ntmps75
  go_wp2_with fail
  refine (implPathSteps a n c B ps _ (h.mk M0 hB (.inr (Nat.le_refl _))) (Nat.le_trans hB M0.size) hn).mono ?_
  rintro e w2 ⟨A, N, cc, rfl, hcc, oo, m2⟩
  replace k0 := m2.cellAt k0
  replace k1 := m2.cellAt k1
  have M2 := M0.trans m2
  have HN := Lib.hid oo.1
  have hNle : N ≤ 1048576 := by have := pathSt_le ps n; have := oo.1; omega
  have HR := Lib.hid (show cntAll zs n1 kd ps n = cntSt zs n1 kd (pathSt ps n) N by unfold cntAll; rw [oo.1])
  go_wp2_with fail
  go_loopw [7, 13] (fun v i wr => ∃ k : Nat, k ≤ N ∧ i = .int .i64 k ∧ v = .int .i64 ((cntSt zs n1 kd (pathSt ps n) k : Nat) : Int) ∧ Mk0 w2 wr) (fun _ i _ => N - (intOf i).toNat)
  case atStart => exact ⟨0, Nat.zero_le _, rfl, rfl, Mk.refl _ _ _⟩
  case round =>
    obtain ⟨k, hk, rfl, rfl, hM⟩ := hrel
    have hM' := M2.trans hM
    have q0 := hM.cellAt k0
    have q1 := hM.cellAt k1
    have hcl := cntSt_le zs n1 kd (pathSt ps n) k
    obtain ⟨V, hV⟩ : ∃ V, Hid (V = cntSt zs n1 kd (pathSt ps n) k) := ⟨_, rfl⟩
    rw [← hV.out] at hcl ⊢
    by_cases hlt : k < N
    · obtain ⟨b, off, y, rfl, hb, hx, c0', c1', c2'⟩ := HasStep.at _ _ _ _ _ _ (oo.has.mk hM (Nat.le_refl _) (.inr (Nat.le_refl _))) hlt
      have hbr := World.block_lt_of_cell? _ _ c0'
      simp only at hbr
      have hbq := World.block_lt_of_cell? _ _ q0
      simp only at hbq
      cases hr : (kindOf zs y.nd y.eg n1 == kd)
      · have HE := Lib.hid (show cntSt zs n1 kd (pathSt ps n) (k + 1) = V by rw [cntSt, ← hx.out, hr, ← hV.out]; rfl)
        have HK := Lib.hid hr
        clear hr
        have MX := Mk.alloc wr (Obj.cells #[Value.int .i64 y.nd, Value.int .i64 y.ing, Value.int .i64 y.eg] 79)
        have d0 : (wr.alloc (Obj.cells #[Value.int .i64 y.nd, Value.int .i64 y.ing, Value.int .i64 y.eg] 79)).cell? ⟨wr.heap.size, 0, none⟩ = some (.int .i64 y.nd) := by simp [go_sem]
        have d2 : (wr.alloc (Obj.cells #[Value.int .i64 y.nd, Value.int .i64 y.ing, Value.int .i64 y.eg] 79)).cell? ⟨wr.heap.size, 2, none⟩ = some (.int .i64 y.eg) := by simp [go_sem]
        have MM := hM'.trans MX
        go_wp2_with fail
        refine (implKind a0 a1 n0 c0 n1 c1 B' zs y.nd y.eg _ (hl.mk MM hB' (.inr (Nat.le_refl _))) (Nat.le_trans hB' MM.size) hn1).mono ?_
        rintro e w3 ⟨rfl, m3⟩
        obtain ⟨K, hK⟩ : ∃ K, Hid (K = kindOf zs y.nd y.eg n1) := ⟨_, rfl⟩
        rw [← hK.out] at HK ⊢
        have hq := HK.out
        go_wp2_with fail
        go_roundw
        case rel => exact ⟨k + 1, by omega, by go_num, congrArg (Value.int .i64) (by first | (rw [HE.out]; done) | (rw [HE.out]; omega)), (hM.trans MX).trans m3⟩
        case measure => simp [intOf]; omega
      · have HE := Lib.hid (show cntSt zs n1 kd (pathSt ps n) (k + 1) = V + 1 by rw [cntSt, ← hx.out, hr, ← hV.out]; rfl)
        have HK := Lib.hid hr
        clear hr
        have MX := Mk.alloc wr (Obj.cells #[Value.int .i64 y.nd, Value.int .i64 y.ing, Value.int .i64 y.eg] 79)
        have d0 : (wr.alloc (Obj.cells #[Value.int .i64 y.nd, Value.int .i64 y.ing, Value.int .i64 y.eg] 79)).cell? ⟨wr.heap.size, 0, none⟩ = some (.int .i64 y.nd) := by simp [go_sem]
        have d2 : (wr.alloc (Obj.cells #[Value.int .i64 y.nd, Value.int .i64 y.ing, Value.int .i64 y.eg] 79)).cell? ⟨wr.heap.size, 2, none⟩ = some (.int .i64 y.eg) := by simp [go_sem]
        have MM := hM'.trans MX
        go_wp2_with fail
        refine (implKind a0 a1 n0 c0 n1 c1 B' zs y.nd y.eg _ (hl.mk MM hB' (.inr (Nat.le_refl _))) (Nat.le_trans hB' MM.size) hn1).mono ?_
        rintro e w3 ⟨rfl, m3⟩
        obtain ⟨K, hK⟩ : ∃ K, Hid (K = kindOf zs y.nd y.eg n1) := ⟨_, rfl⟩
        rw [← hK.out] at HK ⊢
        have hq := HK.out
        go_wp2_with fail
        go_roundw
        case rel => exact ⟨k + 1, by omega, by go_num, congrArg (Value.int .i64) (by first | (rw [HE.out]; done) | (rw [HE.out]; omega)), (hM.trans MX).trans m3⟩
        case measure => simp [intOf]; omega
    · obtain rfl : k = N := by omega
      go_wp2_with fail
      go_ret
      exact ⟨retI (by rw [HR.out, hV.out]), hM'⟩

set_option maxRecDepth 100000 in
set_option maxHeartbeats 4000000 in
theorem implUpSteps (a0 a1 : Option Addr) (n0 c0 n1 c1 B' : Nat) (zs : List TLink) (a : Option Addr) (n c B : Nat) (ps : List TPathPart) (w : World) (hl : HasLink w B' a1 n1 zs) (hB' : B' ≤ w.heap.size) (hn1 : n1 ≤ 1048576) (h : HasPathPart w B a n ps) (hB : B ≤ w.heap.size) (hn : szPathPart ps n ≤ 1048576) :
    Calls Try.prog 39 #[.agg #[.slice a0 n0 c0, .slice a1 n1 c1], .agg #[.slice a n c]] w fun e w' => e = .returned (.int .i64 ((cntAll zs n1 3 ps n : Nat) : Int)) ∧ Mk0 w w' := by
  have M0 := (Mk.alloc w (Obj.cells #[Value.slice a0 n0 c0, Value.slice a1 n1 c1] 51)).new (Obj.cells #[Value.slice a n c] 30)
  go_enter Try.func39, Try.ntmps39
  go_wp2_with fail
  refine (implCnt a0 a1 n0 c0 n1 c1 B' zs a n c B ps 3 _ (hl.mk M0 hB' (.inr (Nat.le_refl _))) (Nat.le_trans hB' M0.size) hn1 (h.mk M0 hB (.inr (Nat.le_refl _))) (Nat.le_trans hB M0.size) hn).mono ?_
  rintro e w2 ⟨rfl, m2⟩
  go_wp2_with fail
  go_ret
  exact ⟨rfl, M0.trans m2⟩

set_option maxRecDepth 100000 in
set_option maxHeartbeats 4000000 in
theorem implDownSteps (a0 a1 : Option Addr) (n0 c0 n1 c1 B' : Nat) (zs : List TLink) (a : Option Addr) (n c B : Nat) (ps : List TPathPart) (w : World) (hl : HasLink w B' a1 n1 zs) (hB' : B' ≤ w.heap.size) (hn1 : n1 ≤ 1048576) (h : HasPathPart w B a n ps) (hB : B ≤ w.heap.size) (hn : szPathPart ps n ≤ 1048576) :
    Calls Try.prog 41 #[.agg #[.slice a0 n0 c0, .slice a1 n1 c1], .agg #[.slice a n c]] w fun e w' => e = .returned (.int .i64 ((cntAll zs n1 2 ps n : Nat) : Int)) ∧ Mk0 w w' := by
  have M0 := (Mk.alloc w (Obj.cells #[Value.slice a0 n0 c0, Value.slice a1 n1 c1] 51)).new (Obj.cells #[Value.slice a n c] 30)
  go_enter Try.func41, Try.ntmps41
  go_wp2_with fail
  refine (implCnt a0 a1 n0 c0 n1 c1 B' zs a n c B ps 2 _ (hl.mk M0 hB' (.inr (Nat.le_refl _))) (Nat.le_trans hB' M0.size) hn1 (h.mk M0 hB (.inr (Nat.le_refl _))) (Nat.le_trans hB M0.size) hn).mono ?_
  rintro e w2 ⟨rfl, m2⟩
  go_wp2_with fail
  go_ret
  exact ⟨rfl, M0.trans m2⟩

set_option maxRecDepth 100000 in
set_option maxHeartbeats 4000000 in
theorem implCoreSteps (a0 a1 : Option Addr) (n0 c0 n1 c1 B' : Nat) (zs : List TLink) (a : Option Addr) (n c B : Nat) (ps : List TPathPart) (w : World) (hl : HasLink w B' a1 n1 zs) (hB' : B' ≤ w.heap.size) (hn1 : n1 ≤ 1048576) (h : HasPathPart w B a n ps) (hB : B ≤ w.heap.size) (hn : szPathPart ps n ≤ 1048576) :
    Calls Try.prog 43 #[.agg #[.slice a0 n0 c0, .slice a1 n1 c1], .agg #[.slice a n c]] w fun e w' => e = .returned (.int .i64 ((cntAll zs n1 1 ps n : Nat) : Int)) ∧ Mk0 w w' := by
  have M0 := (Mk.alloc w (Obj.cells #[Value.slice a0 n0 c0, Value.slice a1 n1 c1] 51)).new (Obj.cells #[Value.slice a n c] 30)
  go_enter Try.func43, Try.ntmps43
  go_wp2_with fail
  refine (implCnt a0 a1 n0 c0 n1 c1 B' zs a n c B ps 1 _ (hl.mk M0 hB' (.inr (Nat.le_refl _))) (Nat.le_trans hB' M0.size) hn1 (h.mk M0 hB (.inr (Nat.le_refl _))) (Nat.le_trans hB M0.size) hn).mono ?_
  rintro e w2 ⟨rfl, m2⟩
  go_wp2_with fail
  go_ret
  exact ⟨rfl, M0.trans m2⟩

end Go.Proofs.Ytmpbpbcjflmfeaa
