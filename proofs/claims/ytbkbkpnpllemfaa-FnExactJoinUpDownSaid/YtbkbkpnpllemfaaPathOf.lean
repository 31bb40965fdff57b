
/- pathOf of the program: heads of parts alone. -/
import Derived.Test.YtbkbkpnpllemfaaMkPS
import Derived.Test.YtbkbkpnpllemfaaFh
import Derived.Test.YtbkbkpnpllemfaaLPathPart
import Derived.Test.YtbkbkpnpllemfaaMnPath
namespace Go.Proofs.Ytbkbkpnpllemfaa
open Go.ChangeShapes Go.WideShapes Go.ChangeAt Go.RowKit
set_option linter.unusedVariables false
/-- The part that MakePart gives. -/
def mpEl (x y : Int) (zs : List THop) (n : Nat) (kd f : Int) : TPathPart := ⟨cnd (mpB n kd f) kd, cnd (mpB n kd f) x, cnd (mpB n kd f) (mpBeta y zs n kd f), mpRow zs n kd f⟩
def addIf {β : Type} (b : Bool) (l : List β) (x : β) : List β := match b with | true => l ++ [x] | false => l
def addN (b : Bool) (n : Nat) : Nat := match b with | true => n + 1 | false => n
theorem addIf_len {β : Type} (b : Bool) {l : List β} {x : β} {n : Nat} (h : l.length = n) : (addIf b l x).length = addN b n := by
  cases b <;> simp [addIf, addN, h]
theorem Kids.snocIf {η α : Type} [Inhabited η] [Inhabited α] {K : Kd η α} {w : World} {lo hi n lo2 hi2 : Nat} {gs : List η} {ts : List α} {q : Nat → Prop} {g : η} {x : α} (b : Bool) (h : Kids K w lo hi q n gs ts) (hg : gs.length = n) (ht : ts.length = n) (h1 : lo ≤ lo2) (h12 : lo2 ≤ hi2) (hx : K.kid w lo2 hi2 g x) (hf : hi ≤ lo2) (hq : ∀ b, q b → b < lo2 ∨ hi2 ≤ b) : Kids K w lo hi2 q (addN b n) (addIf b gs g) (addIf b ts x) := by
  cases b
  · exact h.wide (Nat.le_refl _) (by omega)
  · exact h.snoc hg ht h1 h12 hx hf hq
theorem filter3 {β : Type} (p : β → Bool) (a b c : β) : [a, b, c].filter p = addIf (p c) (addIf (p b) (addIf (p a) [] a) b) c := by
  cases h1 : p a <;> cases h2 : p b <;> cases h3 : p c <;> simp [addIf, h1, h2, h3]
theorem filter2 {β : Type} (p : β → Bool) (a b : β) : [a, b].filter p = addIf (p b) (addIf (p a) [] a) b := by
  cases h1 : p a <;> cases h2 : p b <;> simp [addIf, h1, h2]
def headP (g : HPathPart) : Bool := decide (0 < g.n)
theorem mpRow_len0 (zs : List THop) (n : Nat) (kd : Int) (h : zs.length = n) (hk : inB kd 1 4 = true) : (mpRow zs n kd 0).length = n := by
  rcases Nat.eq_zero_or_pos n with e | e
  · subst e
    have : mpB 0 kd 0 = false := by unfold mpB inB; simp
    simp [mpRow, this]
  · have : mpB n kd 0 = true := by unfold mpB; rw [hk]; simp [inB]; omega
    unfold mpRow
    rw [if_pos this]
    split
    · unfold turnP; rw [List.length_take, turnL_len]; simp
    · simp [h]
theorem filtK_le {β : Type} (p : β → Bool) (l : List β) (k : Nat) : ((l.take k).filter p).length ≤ k := Nat.le_trans (List.length_filter_le _ _) (List.length_take_le _ _)
set_option maxRecDepth 100000 in
set_option maxHeartbeats 4000000 in
theorem pathOf1 (x0 x1 x2 : Int) (a : Option Addr) (n c : Nat) (w : World) : Calls Try.prog 82 #[.agg #[.int .i64 x0, .int .i64 x1, .int .i64 x2, .slice a n c]] w fun e w' => e = .returned (.bool (decide (0 < n))) ∧ Mk0 w w' := by
  have M0 := Mk.alloc w (Obj.cells #[Value.int .i64 x0, Value.int .i64 x1, Value.int .i64 x2, Value.slice a n c] 35)
  have k3 : (w.alloc (Obj.cells #[Value.int .i64 x0, Value.int .i64 x1, Value.int .i64 x2, Value.slice a n c] 35)).cell? ⟨w.heap.size, 3, none⟩ = some (.slice a n c) := by simp [go_sem]
  go_enter Try.func82, Try.ntmps82
  go_wp2
  go_ret
  refine ⟨retB ?_, M0⟩
  simp

set_option maxRecDepth 100000 in
set_option maxHeartbeats 4000000 in
theorem findAllPt (a : Option Addr) (n c B : Nat) (gs : List HPathPart) (w : World) (h : HasR 4 HPathPart.cell w B a n gs) (hB : B ≤ w.heap.size) (hn : n ≤ 1048576) :
    Calls Try.prog 81 #[.slice a n c, .func (.func 82) #[] #[]] w (OutRows 4 HPathPart.cell w (gs.filter headP)) := by
  obtain ⟨i0, hi0, hz0, hz1, hz2⟩ := info_parts infoRPathPart
  have hA := own_emptyR w 35 4
  have MA := Mk.alloc w (.cells #[] 35)
  go_enter Try.func81, Try.ntmps81
  go_wp2_with fail
  go_loopw [5, 11] (fun v i wr => ∃ k : Nat, k ≤ n ∧ i = .int .i64 (k : Int) ∧ wr.ownsRow w.heap.size 35 4 v ((gs.take k).filter headP).length (rowC 4 HPathPart.cell ((gs.take k).filter headP)) ∧ Mk0 w wr) (fun _ i _ => n - (intOf i).toNat)
  case atStart => exact ⟨0, Nat.zero_le _, rfl, hA, MA⟩
  case round =>
    clear hA MA
    obtain ⟨k, hk, rfl, hown, hM⟩ := hrel
    have hul := filtK_le headP gs k
    obtain ⟨L, hL⟩ : ∃ L, Hid (L = (gs.take k).filter headP) := ⟨_, Lib.hid rfl⟩
    rw [← hL.out] at hown hul
    have hlow := hM.size
    by_cases hlt : k < n
    · obtain ⟨b, off, g, rfl, hb, hg, hc⟩ := (h.mk hM hB (.inr (Nat.le_refl _))).at_ hlt
      have c0 : wr.cell? ⟨b, off + k * 4, none⟩ = some (.int .i64 g.kind) := by have := hc 0 (by decide); exact this
      have c1 : wr.cell? ⟨b, off + k * 4 + 1, none⟩ = some (.int .i64 g.ts) := by have := hc 1 (by decide); rw [← Nat.add_assoc] at this; exact this
      have c2 : wr.cell? ⟨b, off + k * 4 + 2, none⟩ = some (.int .i64 g.beta) := by have := hc 2 (by decide); rw [← Nat.add_assoc] at this; exact this
      have c3 : wr.cell? ⟨b, off + k * 4 + 3, none⟩ = some (.slice g.a g.n g.c) := by have := hc 3 (by decide); rw [← Nat.add_assoc] at this; exact this
      have hbr := World.block_lt_of_cell? _ _ c0
      simp only at hbr
      have i1 : (0 : Int) ≤ (k : Int) := by omega
      have i2 : (k : Int) < (n : Int) := by omega
      have HT : gs.take (k + 1) = gs.take k ++ [g] := by rw [List.take_succ_eq_append_getElem (by rw [h.1]; exact hlt), hg.out, List.getD_eq_getElem?_getD, List.getElem?_eq_getElem (by rw [h.1]; exact hlt)]; rfl
      have MX := Mk.alloc wr (Obj.cells #[Value.int .i64 g.kind, Value.int .i64 g.ts, Value.int .i64 g.beta, Value.slice g.a g.n g.c] 35)
      have e0 : (wr.alloc (Obj.cells #[Value.int .i64 g.kind, Value.int .i64 g.ts, Value.int .i64 g.beta, Value.slice g.a g.n g.c] 35)).cell? ⟨wr.heap.size, 0, none⟩ = some (.int .i64 g.kind) := by simp [go_sem]
      have e1 : (wr.alloc (Obj.cells #[Value.int .i64 g.kind, Value.int .i64 g.ts, Value.int .i64 g.beta, Value.slice g.a g.n g.c] 35)).cell? ⟨wr.heap.size, 1, none⟩ = some (.int .i64 g.ts) := by simp [go_sem]
      have e2 : (wr.alloc (Obj.cells #[Value.int .i64 g.kind, Value.int .i64 g.ts, Value.int .i64 g.beta, Value.slice g.a g.n g.c] 35)).cell? ⟨wr.heap.size, 2, none⟩ = some (.int .i64 g.beta) := by simp [go_sem]
      have e3 : (wr.alloc (Obj.cells #[Value.int .i64 g.kind, Value.int .i64 g.ts, Value.int .i64 g.beta, Value.slice g.a g.n g.c] 35)).cell? ⟨wr.heap.size, 3, none⟩ = some (.slice g.a g.n g.c) := by simp [go_sem]
      have KP := pathOf1 g.kind g.ts g.beta g.a g.n g.c (wr.alloc (Obj.cells #[Value.int .i64 g.kind, Value.int .i64 g.ts, Value.int .i64 g.beta, Value.slice g.a g.n g.c] 35))
      cases hp : decide (0 < g.n)
      · have HE := Lib.hid (show (gs.take (k + 1)).filter headP = L by rw [HT, List.filter_append, hL.out]; simp [headP, hp])
        rw [hp] at KP
        go_wp2_with fail
        refine KP.mono ?_
        rintro e w2 ⟨rfl, m2⟩
        go_wp2_with fail
        go_roundw
        case rel => exact ⟨k + 1, by omega, by go_num, by rw [HE.out]; exact own_keptR hown (MX.trans m2), hM.trans (MX.trans m2)⟩
        case measure => simp [intOf]; omega
      · have HE := Lib.hid (show (gs.take (k + 1)).filter headP = L ++ [g] by rw [HT, List.filter_append, hL.out]; simp [headP, hp])
        rw [hp] at KP
        go_wp2_with fail
        refine KP.mono ?_
        rintro e w2 ⟨rfl, m2⟩
        replace e0 := m2.cellAt e0
        replace e1 := m2.cellAt e1
        replace e2 := m2.cellAt e2
        replace e3 := m2.cellAt e3
        have mB := Mk.alloc w2 (Obj.cells #[.int .i64 g.kind, .int .i64 g.ts, .int .i64 g.beta, .slice g.a g.n g.c] 35)
        have mY := (MX.trans m2).trans mB
        have hown2 := own_keptR hown mY
        have hh := hasR_new (cell := HPathPart.cell) (nc := 4) (by decide) w2 35 g #[.int .i64 g.kind, .int .i64 g.ts, .int .i64 g.beta, .slice g.a g.n g.c] (fun j hj => by match j, hj with | 0, _ => rfl | 1, _ => rfl | 2, _ => rfl | 3, _ => rfl)
        have hlo : w.heap.size ≤ (w2.alloc (Obj.cells #[.int .i64 g.kind, .int .i64 g.ts, .int .i64 g.beta, .slice g.a g.n g.c] 35)).heap.size := Nat.le_trans hlow mY.size
        go_wp2_with (at_builtin; refine wpList_appR (by decide) (cell := HPathPart.cell) onePathPart rfl (.tmp 18) (.tmp 20) 40 rfl w.heap.size 35 i0 _ Try.underlying40 hi0 hz0 rfl hz1 (by rw [hz2]; decide) _ L L.length rfl hown2 _ 1 1 [g] rfl (fun h => by cases h) hh (by omega) hlo ?_; intro v2 w4 hown4 hgr)
        have M4 := (hM.trans mY).appR hgr (fun q hq => (hown2.lt q hq).1)
        go_wp2_with fail
        go_roundw
        case rel => exact ⟨k + 1, by omega, by go_num, by rw [HE.out, List.length_append]; exact hown4, M4⟩
        case measure => simp [intOf]; omega
    · obtain rfl : k = n := by omega
      rw [List.take_of_length_le (by rw [h.1]; exact Nat.le_refl _)] at hL
      go_wp2_with fail
      go_ret
      rw [← hL.out]
      exact OutRows.of (by decide) hown hM

set_option maxRecDepth 100000 in
set_option maxHeartbeats 4000000 in
theorem pathOfH (a : Option Addr) (n c B : Nat) (gs : List HPathPart) (w : World) (h : HasR 4 HPathPart.cell w B a n gs) (hB : B ≤ w.heap.size) (hn : n ≤ 1048576) :
    Calls Try.prog 56 #[.slice a n c] w fun e w' => ∃ A N C, e = .returned (.agg #[.slice A N C]) ∧ ((A = none → C = 0) ∧ (N ≤ C ∧ C ≤ 9223372036854775807)) ∧ OwnR 4 HPathPart.cell w' w.heap.size w'.heap.size A N (gs.filter headP) ∧ Mk0 w w' := by
  have M0 : Mk0 w (w.alloc (Obj.cells #[Value.slice none 0 0] 42)) := (Mk.alloc w (Obj.cells #[Value.slice none 0 0] 42))
  have r0 : (w.alloc (Obj.cells #[Value.slice none 0 0] 42)).cell? ⟨w.heap.size, 0, none⟩ = some (.slice none 0 0) := by simp [go_sem]
  have hs0 : (w.alloc (Obj.cells #[Value.slice none 0 0] 42)).heap.size = w.heap.size + 1 := by simp only [World.size_alloc]
  have FR : ∀ q, (w.alloc (Obj.cells #[Value.slice none 0 0] 42)).frozen? ⟨w.heap.size, q, none⟩ = false := fun q => by simp [go_sem]
  go_enter Try.func56, Try.ntmps56
  go_wp2_with fail
  generalize (w.alloc (Obj.cells #[Value.slice none 0 0] 42)) = wb at *
  refine (findAllPt a n c B gs wb (h.mk M0 hB (.inr (Nat.le_refl _))) (Nat.le_trans hB M0.size) hn).mono ?_
  rintro e w2 ⟨A, N, C, rfl, hc, hO, m2⟩
  replace r0 := m2.cellAt r0
  have fr2 : ∀ q, w2.frozen? ⟨w.heap.size, q, none⟩ = false := fun q => (m2.frozen (b := w.heap.size) (o := q) (by omega) (.inr (Nat.zero_le _))).trans (FR q)
  have MF := M0.trans m2
  go_wp2_with fail
  replace r0 := World.cell?_setCell_same _ _ (.slice A N C) r0
  refine bodyPost_ret (v := .agg #[.slice A N C]) (by simp [results, Try.results56, go_sem, r0]) rfl ⟨A, N, C, rfl, hc, ?_, MF.put _ _ (Nat.le_refl _)⟩
  exact (hO.set ⟨w.heap.size, 0, none⟩ (.slice A N C) (.inl (by simp only; omega))).wide (by omega) (by simp only [World.size_set]; exact Nat.le_refl _)

end Go.Proofs.Ytbkbkpnpllemfaa
