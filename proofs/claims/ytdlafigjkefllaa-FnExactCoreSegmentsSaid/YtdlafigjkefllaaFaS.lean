
/- findAll and findSegments over rows of Segment. -/
import Derived.Test.YtdlafigjkefllaaClSegment
import Derived.Test.YtdlafigjkefllaaSegC
import Derived.Test.YtdlafigjkefllaaBetaAt
namespace Go.Proofs.Ytdlafigjkefllaa
open Go.ChangeShapes Go.WideShapes Go.ChangeAt Go.RowKit
set_option linter.unusedVariables false
/-- A head and the segment that it stands for. -/
def elOf (w : World) (B : Nat) (g : HSegment) (x : TSegment) : Prop := g.ts = x.ts ∧ g.beta = x.beta ∧ HasHop w B g.a g.n x.hops ∧ g.n ≤ g.c ∧ g.c ≤ 9223372036854775807 ∧ (g.a = none → g.c = 0)
theorem elOf_mk {w w' : World} {B : Nat} {g : HSegment} {x : TSegment} (h : elOf w B g x) (m : Mk0 w w') (hB : B ≤ w.heap.size) : elOf w' B g x := by
  obtain ⟨e0, e1, r, p⟩ := h
  exact ⟨e0, e1, r.mk m hB (.inr (Nat.le_refl _)), p⟩
theorem heads_has {w : World} {B A' : Nat} {a : Option Addr} {n lo hi : Nat} {gs : List HSegment} {zs : List TSegment} (h : OwnR 3 HSegment.cell w lo hi a n gs) (hl : zs.length = n) (hB : B ≤ A') (hh : hi ≤ A') (he : ∀ i, i < n → elOf w B (gs.getD i default) (zs.getD i default)) : HasSegment w A' a n zs := by
  refine ⟨hl, fun hn => ?_⟩
  obtain ⟨b', off, rfl, hb1, hb2, hc⟩ := h.2 hn
  refine ⟨b', off, rfl, by omega, fun i hi' => ?_⟩
  obtain ⟨e0, e1, r, p1, p2, p3⟩ := he i hi'
  have c0 := (hc (i * 3 + 0) (flat_le (nc := 3) hi' (by decide))).1
  rw [show flat 3 HSegment.cell gs (i * 3 + 0) = HSegment.cell (gs.getD i default) 0 from flat_at _ i 0 (by decide)] at c0
  have c1 := (hc (i * 3 + 1) (flat_le (nc := 3) hi' (by decide))).1
  rw [show flat 3 HSegment.cell gs (i * 3 + 1) = HSegment.cell (gs.getD i default) 1 from flat_at _ i 1 (by decide)] at c1
  rw [← Nat.add_assoc] at c1
  have c2 := (hc (i * 3 + 2) (flat_le (nc := 3) hi' (by decide))).1
  rw [show flat 3 HSegment.cell gs (i * 3 + 2) = HSegment.cell (gs.getD i default) 2 from flat_at _ i 2 (by decide)] at c2
  rw [← Nat.add_assoc] at c2
  generalize gs.getD i default = g at *
  refine ⟨g.a, g.n, g.c, (e0 ▸ c0), (e1 ▸ c1), c2, r.mono hB, p1, p2, p3⟩
theorem filtUp_sz (p : TSegment → Bool) (zs : List TSegment) : ∀ k, sumTo seSegment (filtUp p zs k) (filtUp p zs k).length ≤ sumTo seSegment zs k
  | 0 => Nat.le_refl _
  | k + 1 => by
    have ih := filtUp_sz p zs k
    rw [sumTo]
    by_cases hp : p (zs.getD k default) = true
    · rw [filtUp, if_pos hp, List.length_append]
      show sumTo seSegment _ ((filtUp p zs k).length + 1) ≤ _
      rw [sumTo, getD_snoc_eq rfl]
      have : ∀ q, q ≤ (filtUp p zs k).length → sumTo seSegment (filtUp p zs k ++ [zs.getD k default]) q = sumTo seSegment (filtUp p zs k) q := by
        intro q
        induction q with
        | zero => intro _; rfl
        | succ q iq => intro hq; rw [sumTo, sumTo, iq (by omega), getD_snoc_lt (by omega)]
      rw [this _ (Nat.le_refl _)]
      omega
    · rw [filtUp, if_neg hp]
      omega
theorem filtUp_szS (p : TSegment → Bool) (zs : List TSegment) (n : Nat) : szSegment (filtUp p zs n) (filtUp p zs n).length ≤ szSegment zs n := by
  have := filtUp_sz p zs n
  have := filtUp_le p zs n
  unfold szSegment
  omega
theorem heads_snoc {w : World} {B : Nat} {gs : List HSegment} {zs : List TSegment} {g : HSegment} {x : TSegment} (hl : gs.length = zs.length) (h : ∀ i, i < gs.length → elOf w B (gs.getD i default) (zs.getD i default)) (hx : elOf w B g x) : ∀ i, i < (gs ++ [g]).length → elOf w B ((gs ++ [g]).getD i default) ((zs ++ [x]).getD i default) := by
  intro i hi
  rw [List.length_append] at hi
  have hi : i < gs.length + 1 := hi
  by_cases e : i < gs.length
  · rw [getD_snoc_lt e, getD_snoc_lt (by omega)]
    exact h i e
  · obtain rfl : i = gs.length := by omega
    rw [getD_snoc_eq rfl, getD_snoc_eq hl.symm]
    exact hx
set_option maxRecDepth 100000 in
set_option maxHeartbeats 4000000 in
theorem findAllSeg1 (pr : TSegment → Bool) (Fc : FuncId) (q0 : Value) (a : Option Addr) (n c B : Nat) (zs : List TSegment) (w : World) (h : HasSegment w B a n zs) (hB : B ≤ w.heap.size) (hs : szSegment zs n ≤ 1048576)
    (hen : ∀ (x : TSegment) a3 n3 c3 w1, (callFunc Fc #[.agg #[.int .i64 x.ts, .int .i64 x.beta, .slice a3 n3 c3], q0]).run Try.prog w1 = .ok (.enter Fc #[.agg #[.int .i64 x.ts, .int .i64 x.beta, .slice a3 n3 c3], q0]) w1)
    (hcl : ∀ (x : TSegment) a3 n3 c3 w1, Mk0 w w1 → HasHop w1 B a3 n3 x.hops → n3 ≤ 1048576 → n3 ≤ c3 → c3 ≤ 9223372036854775807 → (a3 = none → c3 = 0) → Calls Try.prog Fc #[.agg #[.int .i64 x.ts, .int .i64 x.beta, .slice a3 n3 c3], q0] w1 fun e w2 => e = .returned (.bool (pr x)) ∧ Mk0 w1 w2) :
    Calls Try.prog 79 #[.slice a n c, .func (.func Fc) #[] #[q0]] w fun e w' => ∃ A N C, e = .returned (.slice A N C) ∧ ((A = none → C = 0) ∧ (N ≤ C ∧ C ≤ 9223372036854775807)) ∧ HasSegment w' w'.heap.size A N (filtUp pr zs n) ∧ Mk0 w w' := by
  have hn : n ≤ 1048576 := Nat.le_trans (szSegment_n zs n) hs
  obtain ⟨i0, hi0, hz0, hz1, hz2⟩ := info_parts infoRSegment
  have HCL := Lib.hid hcl
  have HEN := Lib.hid hen
  clear hcl hen
  go_enter Try.func79, Try.ntmps79
  go_wp2_with fail
  have hA := own_emptyR w 82 3
  have MA := Mk.alloc w (.cells #[] 82)
  go_loopw [5, 11] (fun v i wr => ∃ (k : Nat) (gs : List HSegment), k ≤ n ∧ i = .int .i64 k ∧ gs.length = (filtUp pr zs k).length ∧ wr.ownsRow w.heap.size 82 3 v gs.length (rowC 3 HSegment.cell gs) ∧ Hid (∀ i, i < gs.length → elOf w B (gs.getD i default) ((filtUp pr zs k).getD i default)) ∧ Mk0 w wr) (fun _ i _ => n - (intOf i).toNat)
  case atStart => exact ⟨0, [], Nat.zero_le _, rfl, rfl, hA, Lib.hid (fun i hi => by cases hi), MA⟩
  case round =>
    clear hA MA
    obtain ⟨k, gs, hk, rfl, hgl, hown, hEL, hM⟩ := hrel
    have hul := filtUp_le pr zs k
    have hlow := hM.size
    obtain ⟨L, hL⟩ : ∃ L, Hid (L = gs.length) := ⟨_, Lib.hid rfl⟩
    by_cases hlt : k < n
    · obtain ⟨b, off, x, rfl, hb, hx, a3, n3, c3, d0, d1, d2, hr, p1, p2, p3⟩ := HasSegment.at _ _ _ _ _ _ h hlt
      have hbd : n3 ≤ 1048576 := by have h1 := szSegment_at zs hlt; rw [← hx.out] at h1; unfold seSegment at h1; have h2 : x.hops.length = n3 := hr.1; omega
      replace d0 := hM.cellAt d0
      replace d1 := hM.cellAt d1
      replace d2 := hM.cellAt d2
      have hbr := World.block_lt_of_cell? _ _ d0
      simp only at hbr
      have MX := Mk.alloc wr (Obj.cells #[Value.int .i64 x.ts, Value.int .i64 x.beta, Value.slice a3 n3 c3] 82)
      have hMX := hM.trans MX
      have e0 : (wr.alloc (Obj.cells #[Value.int .i64 x.ts, Value.int .i64 x.beta, Value.slice a3 n3 c3] 82)).cell? ⟨wr.heap.size, 0, none⟩ = some (.int .i64 x.ts) := by simp [go_sem]
      have e1 : (wr.alloc (Obj.cells #[Value.int .i64 x.ts, Value.int .i64 x.beta, Value.slice a3 n3 c3] 82)).cell? ⟨wr.heap.size, 1, none⟩ = some (.int .i64 x.beta) := by simp [go_sem]
      have e2 : (wr.alloc (Obj.cells #[Value.int .i64 x.ts, Value.int .i64 x.beta, Value.slice a3 n3 c3] 82)).cell? ⟨wr.heap.size, 2, none⟩ = some (.slice a3 n3 c3) := by simp [go_sem]
      have KP := HCL.out x a3 n3 c3 (wr.alloc (Obj.cells #[Value.int .i64 x.ts, Value.int .i64 x.beta, Value.slice a3 n3 c3] 82)) hMX (hr.mk hMX hB (.inr (Nat.le_refl _))) hbd p1 p2 p3
      have hen := HEN.out x a3 n3 c3
      cases hp : pr x
      · have HE := Lib.hid (show filtUp pr zs (k + 1) = filtUp pr zs k by rw [filtUp, ← hx.out, hp]; rfl)
        have HP := Lib.hid hp
        go_wp2_with fail
        refine KP.mono ?_
        rintro e w2 ⟨he, m2⟩
        rw [HP.out] at he
        subst he
        clear KP hen hp
        go_wp2_with fail
        go_roundw
        case rel => exact ⟨k + 1, gs, by omega, by go_num, by rw [HE.out]; exact hgl, own_keptR hown (MX.trans m2), by rw [HE.out]; exact hEL, hM.trans (MX.trans m2)⟩
        case measure => simp [intOf]; omega
      · have HE := Lib.hid (show filtUp pr zs (k + 1) = filtUp pr zs k ++ [x] by rw [filtUp, ← hx.out, hp]; rfl)
        have HP := Lib.hid hp
        go_wp2_with fail
        refine KP.mono ?_
        rintro e w2 ⟨he, m2⟩
        rw [HP.out] at he
        subst he
        clear KP hen hp
        replace e0 := m2.cellAt e0
        replace e1 := m2.cellAt e1
        replace e2 := m2.cellAt e2
        have mB := Mk.alloc w2 (Obj.cells #[.int .i64 x.ts, .int .i64 x.beta, .slice a3 n3 c3] 82)
        have mY := (MX.trans m2).trans mB
        have hown2 := own_keptR hown mY
        rw [← hL.out] at hown2
        have hh := hasR_new (cell := HSegment.cell) (nc := 3) (by decide) w2 82 (⟨x.ts, x.beta, a3, n3, c3⟩ : HSegment) #[.int .i64 x.ts, .int .i64 x.beta, .slice a3 n3 c3] (fun j hj => by match j, hj with | 0, _ => rfl | 1, _ => rfl | 2, _ => rfl)
        have hlo : w.heap.size ≤ (w2.alloc (Obj.cells #[.int .i64 x.ts, .int .i64 x.beta, .slice a3 n3 c3] 82)).heap.size := Nat.le_trans hlow mY.size
        have hLb : L ≤ k := by rw [hL.out]; omega
        go_wp2_with (at_builtin; refine wpList_appR (by decide) (cell := HSegment.cell) oneSegment rfl (.tmp 18) (.tmp 20) 34 rfl w.heap.size 82 i0 _ Try.underlying34 hi0 hz0 rfl hz1 (by rw [hz2]; decide) _ gs L rfl hown2 _ 1 1 [(⟨x.ts, x.beta, a3, n3, c3⟩ : HSegment)] rfl (fun h => by cases h) hh (by omega) hlo ?_; intro v2 w4 hown4 hgr)
        have M4 := (hM.trans mY).appR hgr (fun q hq => (hown2.lt q hq).1)
        have hEL2 := Lib.hid (heads_snoc hgl hEL.out (show elOf w B (⟨x.ts, x.beta, a3, n3, c3⟩ : HSegment) x from ⟨rfl, rfl, hr, p1, p2, p3⟩))
        have hGL : (gs ++ [(⟨x.ts, x.beta, a3, n3, c3⟩ : HSegment)]).length = L + 1 := by rw [List.length_append, hL.out]; rfl
        go_wp2_with fail
        go_roundw
        case rel => exact ⟨k + 1, gs ++ [(⟨x.ts, x.beta, a3, n3, c3⟩ : HSegment)], by omega, by go_num, by rw [HE.out, List.length_append, List.length_append, hgl]; rfl, by rw [hGL]; exact hown4, by rw [HE.out]; exact hEL2, M4⟩
        case measure => simp [intOf]; omega
    · obtain rfl : k = n := by omega
      go_wp2_with fail
      go_ret
      obtain ⟨A, C, rfl, hca, hcb⟩ := ownsRow_sliceR2 hown
      exact ⟨A, gs.length, C, rfl, ⟨hca, hcb⟩, heads_has (ownsRow_ownR (by decide) hown) hgl.symm (Nat.le_trans hB hlow) (Nat.le_refl _) (fun i hi => elOf_mk (hEL.out i hi) hM hB), hM⟩

set_option maxRecDepth 100000 in
set_option maxHeartbeats 4000000 in
theorem findSegs1 (pr : TSegment → Bool) (Fc : FuncId) (q0 : Value) (a : Option Addr) (n c B : Nat) (zs : List TSegment) (w : World) (h : HasSegment w B a n zs) (hB : B ≤ w.heap.size) (hs : szSegment zs n ≤ 1048576)
    (hen : ∀ (x : TSegment) a3 n3 c3 w1, (callFunc Fc #[.agg #[.int .i64 x.ts, .int .i64 x.beta, .slice a3 n3 c3], q0]).run Try.prog w1 = .ok (.enter Fc #[.agg #[.int .i64 x.ts, .int .i64 x.beta, .slice a3 n3 c3], q0]) w1)
    (hcl : ∀ (x : TSegment) a3 n3 c3 w1, Mk0 w w1 → HasHop w1 B a3 n3 x.hops → n3 ≤ 1048576 → n3 ≤ c3 → c3 ≤ 9223372036854775807 → (a3 = none → c3 = 0) → Calls Try.prog Fc #[.agg #[.int .i64 x.ts, .int .i64 x.beta, .slice a3 n3 c3], q0] w1 fun e w2 => e = .returned (.bool (pr x)) ∧ Mk0 w1 w2) :
    Calls Try.prog 48 #[.slice a n c, .func (.func Fc) #[] #[q0]] w (OutLSegment (filtUp pr zs n) w) := by
  have hsF : szSegment (filtUp pr zs n) (filtUp pr zs n).length ≤ 1048576 := Nat.le_trans (filtUp_szS pr zs n) hs
  go_enter Try.func48, Try.ntmps48
  go_wp2_with fail
  refine (findAllSeg1 pr Fc q0 a n c B zs w h hB hs hen hcl).mono ?_
  rintro e w2 ⟨A, N, C, rfl, hc2, hh2, m2⟩
  have hN := hh2.1
  go_wp2_with fail
  refine (cloneAllSegment (fun x => x) 77 A N C _ (filtUp pr zs n) w2 hh2 (Nat.le_refl _) (by rw [← hN]; exact hsF) (fun _ _ _ _ _ => rfl) (fun x a3 n3 c3 B1 w1 hr hB1 hb p1 p2 p3 => (implCloneSeg x.ts x.beta a3 n3 c3 B1 x.hops w1 hr hB1 hb p3 p1).mono ?_)).mono ?_
  · intro e w3 ho
    have ho2 := ho.c
    obtain ⟨A3, N3, C3, rfl, hcc, hoo, mm⟩ := ho2
    exact ⟨A3, N3, C3, rfl, hcc, hoo, mm⟩
  · rintro e w3 ⟨A3, N3, C3, rfl, hcc, hoo, mm⟩
    go_wp2_with fail
    go_ret
    refine ⟨A3, N3, C3, rfl, hcc, ?_, m2.trans mm⟩
    rw [List.map_id'] at hoo
    exact hoo.wide m2.size (Nat.le_refl _)

set_option maxRecDepth 100000 in
set_option maxHeartbeats 4000000 in
theorem findAllSeg2 (pr : TSegment → Bool) (Fc : FuncId) (q0 q1 : Value) (a : Option Addr) (n c B : Nat) (zs : List TSegment) (w : World) (h : HasSegment w B a n zs) (hB : B ≤ w.heap.size) (hs : szSegment zs n ≤ 1048576)
    (hen : ∀ (x : TSegment) a3 n3 c3 w1, (callFunc Fc #[.agg #[.int .i64 x.ts, .int .i64 x.beta, .slice a3 n3 c3], q0, q1]).run Try.prog w1 = .ok (.enter Fc #[.agg #[.int .i64 x.ts, .int .i64 x.beta, .slice a3 n3 c3], q0, q1]) w1)
    (hcl : ∀ (x : TSegment) a3 n3 c3 w1, Mk0 w w1 → HasHop w1 B a3 n3 x.hops → n3 ≤ 1048576 → n3 ≤ c3 → c3 ≤ 9223372036854775807 → (a3 = none → c3 = 0) → Calls Try.prog Fc #[.agg #[.int .i64 x.ts, .int .i64 x.beta, .slice a3 n3 c3], q0, q1] w1 fun e w2 => e = .returned (.bool (pr x)) ∧ Mk0 w1 w2) :
    Calls Try.prog 79 #[.slice a n c, .func (.func Fc) #[] #[q0, q1]] w fun e w' => ∃ A N C, e = .returned (.slice A N C) ∧ ((A = none → C = 0) ∧ (N ≤ C ∧ C ≤ 9223372036854775807)) ∧ HasSegment w' w'.heap.size A N (filtUp pr zs n) ∧ Mk0 w w' := by
  have hn : n ≤ 1048576 := Nat.le_trans (szSegment_n zs n) hs
  obtain ⟨i0, hi0, hz0, hz1, hz2⟩ := info_parts infoRSegment
  have HCL := Lib.hid hcl
  have HEN := Lib.hid hen
  clear hcl hen
  go_enter Try.func79, Try.ntmps79
  go_wp2_with fail
  have hA := own_emptyR w 82 3
  have MA := Mk.alloc w (.cells #[] 82)
  go_loopw [5, 11] (fun v i wr => ∃ (k : Nat) (gs : List HSegment), k ≤ n ∧ i = .int .i64 k ∧ gs.length = (filtUp pr zs k).length ∧ wr.ownsRow w.heap.size 82 3 v gs.length (rowC 3 HSegment.cell gs) ∧ Hid (∀ i, i < gs.length → elOf w B (gs.getD i default) ((filtUp pr zs k).getD i default)) ∧ Mk0 w wr) (fun _ i _ => n - (intOf i).toNat)
  case atStart => exact ⟨0, [], Nat.zero_le _, rfl, rfl, hA, Lib.hid (fun i hi => by cases hi), MA⟩
  case round =>
    clear hA MA
    obtain ⟨k, gs, hk, rfl, hgl, hown, hEL, hM⟩ := hrel
    have hul := filtUp_le pr zs k
    have hlow := hM.size
    obtain ⟨L, hL⟩ : ∃ L, Hid (L = gs.length) := ⟨_, Lib.hid rfl⟩
    by_cases hlt : k < n
    · obtain ⟨b, off, x, rfl, hb, hx, a3, n3, c3, d0, d1, d2, hr, p1, p2, p3⟩ := HasSegment.at _ _ _ _ _ _ h hlt
      have hbd : n3 ≤ 1048576 := by have h1 := szSegment_at zs hlt; rw [← hx.out] at h1; unfold seSegment at h1; have h2 : x.hops.length = n3 := hr.1; omega
      replace d0 := hM.cellAt d0
      replace d1 := hM.cellAt d1
      replace d2 := hM.cellAt d2
      have hbr := World.block_lt_of_cell? _ _ d0
      simp only at hbr
      have MX := Mk.alloc wr (Obj.cells #[Value.int .i64 x.ts, Value.int .i64 x.beta, Value.slice a3 n3 c3] 82)
      have hMX := hM.trans MX
      have e0 : (wr.alloc (Obj.cells #[Value.int .i64 x.ts, Value.int .i64 x.beta, Value.slice a3 n3 c3] 82)).cell? ⟨wr.heap.size, 0, none⟩ = some (.int .i64 x.ts) := by simp [go_sem]
      have e1 : (wr.alloc (Obj.cells #[Value.int .i64 x.ts, Value.int .i64 x.beta, Value.slice a3 n3 c3] 82)).cell? ⟨wr.heap.size, 1, none⟩ = some (.int .i64 x.beta) := by simp [go_sem]
      have e2 : (wr.alloc (Obj.cells #[Value.int .i64 x.ts, Value.int .i64 x.beta, Value.slice a3 n3 c3] 82)).cell? ⟨wr.heap.size, 2, none⟩ = some (.slice a3 n3 c3) := by simp [go_sem]
      have KP := HCL.out x a3 n3 c3 (wr.alloc (Obj.cells #[Value.int .i64 x.ts, Value.int .i64 x.beta, Value.slice a3 n3 c3] 82)) hMX (hr.mk hMX hB (.inr (Nat.le_refl _))) hbd p1 p2 p3
      have hen := HEN.out x a3 n3 c3
      cases hp : pr x
      · have HE := Lib.hid (show filtUp pr zs (k + 1) = filtUp pr zs k by rw [filtUp, ← hx.out, hp]; rfl)
        have HP := Lib.hid hp
        go_wp2_with fail
        refine KP.mono ?_
        rintro e w2 ⟨he, m2⟩
        rw [HP.out] at he
        subst he
        clear KP hen hp
        go_wp2_with fail
        go_roundw
        case rel => exact ⟨k + 1, gs, by omega, by go_num, by rw [HE.out]; exact hgl, own_keptR hown (MX.trans m2), by rw [HE.out]; exact hEL, hM.trans (MX.trans m2)⟩
        case measure => simp [intOf]; omega
      · have HE := Lib.hid (show filtUp pr zs (k + 1) = filtUp pr zs k ++ [x] by rw [filtUp, ← hx.out, hp]; rfl)
        have HP := Lib.hid hp
        go_wp2_with fail
        refine KP.mono ?_
        rintro e w2 ⟨he, m2⟩
        rw [HP.out] at he
        subst he
        clear KP hen hp
        replace e0 := m2.cellAt e0
        replace e1 := m2.cellAt e1
        replace e2 := m2.cellAt e2
        have mB := Mk.alloc w2 (Obj.cells #[.int .i64 x.ts, .int .i64 x.beta, .slice a3 n3 c3] 82)
        have mY := (MX.trans m2).trans mB
        have hown2 := own_keptR hown mY
        rw [← hL.out] at hown2
        have hh := hasR_new (cell := HSegment.cell) (nc := 3) (by decide) w2 82 (⟨x.ts, x.beta, a3, n3, c3⟩ : HSegment) #[.int .i64 x.ts, .int .i64 x.beta, .slice a3 n3 c3] (fun j hj => by match j, hj with | 0, _ => rfl | 1, _ => rfl | 2, _ => rfl)
        have hlo : w.heap.size ≤ (w2.alloc (Obj.cells #[.int .i64 x.ts, .int .i64 x.beta, .slice a3 n3 c3] 82)).heap.size := Nat.le_trans hlow mY.size
        have hLb : L ≤ k := by rw [hL.out]; omega
        go_wp2_with (at_builtin; refine wpList_appR (by decide) (cell := HSegment.cell) oneSegment rfl (.tmp 18) (.tmp 20) 34 rfl w.heap.size 82 i0 _ Try.underlying34 hi0 hz0 rfl hz1 (by rw [hz2]; decide) _ gs L rfl hown2 _ 1 1 [(⟨x.ts, x.beta, a3, n3, c3⟩ : HSegment)] rfl (fun h => by cases h) hh (by omega) hlo ?_; intro v2 w4 hown4 hgr)
        have M4 := (hM.trans mY).appR hgr (fun q hq => (hown2.lt q hq).1)
        have hEL2 := Lib.hid (heads_snoc hgl hEL.out (show elOf w B (⟨x.ts, x.beta, a3, n3, c3⟩ : HSegment) x from ⟨rfl, rfl, hr, p1, p2, p3⟩))
        have hGL : (gs ++ [(⟨x.ts, x.beta, a3, n3, c3⟩ : HSegment)]).length = L + 1 := by rw [List.length_append, hL.out]; rfl
        go_wp2_with fail
        go_roundw
        case rel => exact ⟨k + 1, gs ++ [(⟨x.ts, x.beta, a3, n3, c3⟩ : HSegment)], by omega, by go_num, by rw [HE.out, List.length_append, List.length_append, hgl]; rfl, by rw [hGL]; exact hown4, by rw [HE.out]; exact hEL2, M4⟩
        case measure => simp [intOf]; omega
    · obtain rfl : k = n := by omega
      go_wp2_with fail
      go_ret
      obtain ⟨A, C, rfl, hca, hcb⟩ := ownsRow_sliceR2 hown
      exact ⟨A, gs.length, C, rfl, ⟨hca, hcb⟩, heads_has (ownsRow_ownR (by decide) hown) hgl.symm (Nat.le_trans hB hlow) (Nat.le_refl _) (fun i hi => elOf_mk (hEL.out i hi) hM hB), hM⟩

set_option maxRecDepth 100000 in
set_option maxHeartbeats 4000000 in
theorem findSegs2 (pr : TSegment → Bool) (Fc : FuncId) (q0 q1 : Value) (a : Option Addr) (n c B : Nat) (zs : List TSegment) (w : World) (h : HasSegment w B a n zs) (hB : B ≤ w.heap.size) (hs : szSegment zs n ≤ 1048576)
    (hen : ∀ (x : TSegment) a3 n3 c3 w1, (callFunc Fc #[.agg #[.int .i64 x.ts, .int .i64 x.beta, .slice a3 n3 c3], q0, q1]).run Try.prog w1 = .ok (.enter Fc #[.agg #[.int .i64 x.ts, .int .i64 x.beta, .slice a3 n3 c3], q0, q1]) w1)
    (hcl : ∀ (x : TSegment) a3 n3 c3 w1, Mk0 w w1 → HasHop w1 B a3 n3 x.hops → n3 ≤ 1048576 → n3 ≤ c3 → c3 ≤ 9223372036854775807 → (a3 = none → c3 = 0) → Calls Try.prog Fc #[.agg #[.int .i64 x.ts, .int .i64 x.beta, .slice a3 n3 c3], q0, q1] w1 fun e w2 => e = .returned (.bool (pr x)) ∧ Mk0 w1 w2) :
    Calls Try.prog 48 #[.slice a n c, .func (.func Fc) #[] #[q0, q1]] w (OutLSegment (filtUp pr zs n) w) := by
  have hsF : szSegment (filtUp pr zs n) (filtUp pr zs n).length ≤ 1048576 := Nat.le_trans (filtUp_szS pr zs n) hs
  go_enter Try.func48, Try.ntmps48
  go_wp2_with fail
  refine (findAllSeg2 pr Fc q0 q1 a n c B zs w h hB hs hen hcl).mono ?_
  rintro e w2 ⟨A, N, C, rfl, hc2, hh2, m2⟩
  have hN := hh2.1
  go_wp2_with fail
  refine (cloneAllSegment (fun x => x) 77 A N C _ (filtUp pr zs n) w2 hh2 (Nat.le_refl _) (by rw [← hN]; exact hsF) (fun _ _ _ _ _ => rfl) (fun x a3 n3 c3 B1 w1 hr hB1 hb p1 p2 p3 => (implCloneSeg x.ts x.beta a3 n3 c3 B1 x.hops w1 hr hB1 hb p3 p1).mono ?_)).mono ?_
  · intro e w3 ho
    have ho2 := ho.c
    obtain ⟨A3, N3, C3, rfl, hcc, hoo, mm⟩ := ho2
    exact ⟨A3, N3, C3, rfl, hcc, hoo, mm⟩
  · rintro e w3 ⟨A3, N3, C3, rfl, hcc, hoo, mm⟩
    go_wp2_with fail
    go_ret
    refine ⟨A3, N3, C3, rfl, hcc, ?_, m2.trans mm⟩
    rw [List.map_id'] at hoo
    exact hoo.wide m2.size (Nat.le_refl _)

end Go.Proofs.Ytdlafigjkefllaa
