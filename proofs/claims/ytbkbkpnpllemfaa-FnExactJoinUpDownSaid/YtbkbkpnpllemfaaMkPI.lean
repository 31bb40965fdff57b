
/- MakePart of the program. -/
import Derived.Test.YtbkbkpnpllemfaaRevPt
import Derived.Test.YtbkbkpnpllemfaaVPtS
import Derived.Test.YtbkbkpnpllemfaaMkcPathPart
import Derived.Test.YtbkbkpnpllemfaaAppRun
import Derived.Test.YtbkbkpnpllemfaaRevHop
import Derived.Test.YtbkbkpnpllemfaaFg
namespace Go.Proofs.Ytbkbkpnpllemfaa
open Go.ChangeShapes Go.WideShapes Go.ChangeAt Go.RowKit
set_option linter.unusedVariables false
def cnd : Bool → Int → Int
  | true, v => v
  | false, _ => 0
def mpB (n : Nat) (kd f : Int) : Bool := inB f 0 ((n : Int) - 1) && inB kd 1 4
def mpBeta (x1 : Int) (zs : List THop) (n : Nat) (kd f : Int) : Int := if revB kd = true then betaV x1 zs n (n : Int) else betaV x1 zs n f
def mpRow (zs : List THop) (n : Nat) (kd f : Int) : List THop := if mpB n kd f = true then (if revB kd = true then (turnP zs n).take (n - f.toNat) else zs.drop f.toNat) else []
theorem HasR.drop {α : Type} [Inhabited α] {nc : Nat} {cell : α → Nat → Value} {w : World} {B n f b off : Nat} {zs : List α} (h : HasR nc cell w B (some ⟨b, off, none⟩) n zs) (hf : f ≤ n) : HasR nc cell w B (some ⟨b, off + f * nc, none⟩) (n - f) (zs.drop f) := by
  refine ⟨by rw [List.length_drop, h.1], fun hn => ?_⟩
  obtain ⟨b', off', e, hb, hc⟩ := h.2 (by omega)
  simp only [Option.some.injEq, Addr.mk.injEq, and_true] at e
  obtain ⟨rfl, rfl⟩ := e
  refine ⟨b, off + f * nc, rfl, hb, fun j hj => ?_⟩
  rcases Nat.eq_zero_or_pos nc with h0 | h0
  · subst h0; simp at hj
  have h1 : f * nc + j < n * nc := by
    have h2 : n * nc = f * nc + (n - f) * nc := by rw [← Nat.add_mul]; congr 1; omega
    omega
  rw [Nat.add_assoc, hc _ h1]
  unfold flat
  rw [Nat.add_comm (f * nc), Nat.add_mul_div_right _ _ h0, Nat.add_mul_mod_self_right, List.getD_eq_getElem?_getD, List.getD_eq_getElem?_getD, List.getElem?_drop, Nat.add_comm f]
theorem turn_drop (zs : List THop) {n f : Nat} (hf : f ≤ n) : turnL (fun x => x) (zs.drop f) (n - f) = (turnP zs n).take (n - f) := by
  refine List.ext_getElem (by simp [turnL, turnP]) fun q h1 h2 => ?_
  have hq : q < n - f := by simpa [turnL] using h1
  simp only [turnP, turnL, List.getElem_map, List.getElem_range, List.getElem_take]
  rw [List.getD_eq_getElem?_getD, List.getD_eq_getElem?_getD, List.getElem?_drop, show f + (n - f - 1 - q) = n - 1 - q by omega]
theorem oneHopM : ∀ (x : THop) (j : Nat), (THop.cell x j).oneCell' = true := fun x j => by unfold THop.cell; split <;> rfl
set_option maxRecDepth 100000 in
set_option maxHeartbeats 16000000 in
theorem implMkP (x0 x1 : Int) (a : Option Addr) (n c B : Nat) (zs : List THop) (kd f : Int) (w : World) (h : HasHop w B a n zs) (hB : B ≤ w.heap.size) (hn : n ≤ 1048576) (hc0 : a = none → c = 0) (hnc : n ≤ c) :
    Calls Try.prog 17 #[.agg #[.int .i64 x0, .int .i64 x1, .slice a n c], .int .i64 kd, .int .i64 f] w (OutCPathPart (cnd (mpB n kd f) kd) (cnd (mpB n kd f) x0) (cnd (mpB n kd f) (mpBeta x1 zs n kd f)) (mpRow zs n kd f) w) := by
  have M0 : Mk0 w ((w.alloc (Obj.cells #[Value.int .i64 x0, Value.int .i64 x1, Value.slice a n c] 28)).alloc (Obj.cells #[Value.int .i64 0, Value.int .i64 0, Value.int .i64 0, Value.slice none 0 0] 35)) := ((Mk.alloc w (Obj.cells #[Value.int .i64 x0, Value.int .i64 x1, Value.slice a n c] 28)).new (Obj.cells #[Value.int .i64 0, Value.int .i64 0, Value.int .i64 0, Value.slice none 0 0] 35))
  have k0 : ((w.alloc (Obj.cells #[Value.int .i64 x0, Value.int .i64 x1, Value.slice a n c] 28)).alloc (Obj.cells #[Value.int .i64 0, Value.int .i64 0, Value.int .i64 0, Value.slice none 0 0] 35)).cell? ⟨w.heap.size, 0, none⟩ = some (.int .i64 x0) := by simp [go_sem]
  have k1 : ((w.alloc (Obj.cells #[Value.int .i64 x0, Value.int .i64 x1, Value.slice a n c] 28)).alloc (Obj.cells #[Value.int .i64 0, Value.int .i64 0, Value.int .i64 0, Value.slice none 0 0] 35)).cell? ⟨w.heap.size, 1, none⟩ = some (.int .i64 x1) := by simp [go_sem]
  have k2 : ((w.alloc (Obj.cells #[Value.int .i64 x0, Value.int .i64 x1, Value.slice a n c] 28)).alloc (Obj.cells #[Value.int .i64 0, Value.int .i64 0, Value.int .i64 0, Value.slice none 0 0] 35)).cell? ⟨w.heap.size, 2, none⟩ = some (.slice a n c) := by simp [go_sem]
  have r0 : ((w.alloc (Obj.cells #[Value.int .i64 x0, Value.int .i64 x1, Value.slice a n c] 28)).alloc (Obj.cells #[Value.int .i64 0, Value.int .i64 0, Value.int .i64 0, Value.slice none 0 0] 35)).cell? ⟨w.heap.size + 1, 0, none⟩ = some (.int .i64 0) := by simp [go_sem]
  have r1 : ((w.alloc (Obj.cells #[Value.int .i64 x0, Value.int .i64 x1, Value.slice a n c] 28)).alloc (Obj.cells #[Value.int .i64 0, Value.int .i64 0, Value.int .i64 0, Value.slice none 0 0] 35)).cell? ⟨w.heap.size + 1, 1, none⟩ = some (.int .i64 0) := by simp [go_sem]
  have r2 : ((w.alloc (Obj.cells #[Value.int .i64 x0, Value.int .i64 x1, Value.slice a n c] 28)).alloc (Obj.cells #[Value.int .i64 0, Value.int .i64 0, Value.int .i64 0, Value.slice none 0 0] 35)).cell? ⟨w.heap.size + 1, 2, none⟩ = some (.int .i64 0) := by simp [go_sem]
  have r3 : ((w.alloc (Obj.cells #[Value.int .i64 x0, Value.int .i64 x1, Value.slice a n c] 28)).alloc (Obj.cells #[Value.int .i64 0, Value.int .i64 0, Value.int .i64 0, Value.slice none 0 0] 35)).cell? ⟨w.heap.size + 1, 3, none⟩ = some (.slice none 0 0) := by simp [go_sem]
  have hs0 : ((w.alloc (Obj.cells #[Value.int .i64 x0, Value.int .i64 x1, Value.slice a n c] 28)).alloc (Obj.cells #[Value.int .i64 0, Value.int .i64 0, Value.int .i64 0, Value.slice none 0 0] 35)).heap.size = w.heap.size + 1 + 1 := by simp only [World.size_alloc]
  have fR : ∀ q, ((w.alloc (Obj.cells #[Value.int .i64 x0, Value.int .i64 x1, Value.slice a n c] 28)).alloc (Obj.cells #[Value.int .i64 0, Value.int .i64 0, Value.int .i64 0, Value.slice none 0 0] 35)).frozen? ⟨w.heap.size + 1, q, none⟩ = false := fun q => by simp [go_sem]
  go_enter Try.func17, Try.ntmps17
  go_wp2_with fail
  generalize ((w.alloc (Obj.cells #[Value.int .i64 x0, Value.int .i64 x1, Value.slice a n c] 28)).alloc (Obj.cells #[Value.int .i64 0, Value.int .i64 0, Value.int .i64 0, Value.slice none 0 0] 35)) = wb at *
  refine (implIn f 0 _ _).mono ?_
  rintro e w2 ⟨he, rfl⟩
  have M := M0
  cases q1 : inB f 0 ((n : Int) - 1)
  · rw [q1] at he
    subst he
    have HP := Lib.hid (show mpB n kd f = false by unfold mpB; rw [q1]; first | done | rfl | simp)
    go_wp2_with fail
    replace r0 := World.cell?_setCell_same _ _ (.int .i64 0) r0
    replace r1 := cell_set r1 ⟨w.heap.size + 1, 0, none⟩ (.int .i64 0) (.inr (by simp))
    replace r2 := cell_set r2 ⟨w.heap.size + 1, 0, none⟩ (.int .i64 0) (.inr (by simp))
    replace r3 := cell_set r3 ⟨w.heap.size + 1, 0, none⟩ (.int .i64 0) (.inr (by simp))
    replace M := M.put ⟨w.heap.size + 1, 0, none⟩ (.int .i64 0) (show w.heap.size ≤ w.heap.size + 1 from by omega)
    replace r0 := cell_set r0 ⟨w.heap.size + 1, 1, none⟩ (.int .i64 0) (.inr (by simp))
    replace r1 := World.cell?_setCell_same _ _ (.int .i64 0) r1
    replace r2 := cell_set r2 ⟨w.heap.size + 1, 1, none⟩ (.int .i64 0) (.inr (by simp))
    replace r3 := cell_set r3 ⟨w.heap.size + 1, 1, none⟩ (.int .i64 0) (.inr (by simp))
    replace M := M.put ⟨w.heap.size + 1, 1, none⟩ (.int .i64 0) (show w.heap.size ≤ w.heap.size + 1 from by omega)
    replace r0 := cell_set r0 ⟨w.heap.size + 1, 2, none⟩ (.int .i64 0) (.inr (by simp))
    replace r1 := cell_set r1 ⟨w.heap.size + 1, 2, none⟩ (.int .i64 0) (.inr (by simp))
    replace r2 := World.cell?_setCell_same _ _ (.int .i64 0) r2
    replace r3 := cell_set r3 ⟨w.heap.size + 1, 2, none⟩ (.int .i64 0) (.inr (by simp))
    replace M := M.put ⟨w.heap.size + 1, 2, none⟩ (.int .i64 0) (show w.heap.size ≤ w.heap.size + 1 from by omega)
    replace r0 := cell_set r0 ⟨w.heap.size + 1, 3, none⟩ (.slice none 0 0) (.inr (by simp))
    replace r1 := cell_set r1 ⟨w.heap.size + 1, 3, none⟩ (.slice none 0 0) (.inr (by simp))
    replace r2 := cell_set r2 ⟨w.heap.size + 1, 3, none⟩ (.slice none 0 0) (.inr (by simp))
    replace r3 := World.cell?_setCell_same _ _ (.slice none 0 0) r3
    replace M := M.put ⟨w.heap.size + 1, 3, none⟩ (.slice none 0 0) (show w.heap.size ≤ w.heap.size + 1 from by omega)
    have zF : ((((wb.setCell ⟨w.heap.size + 1, 0, none⟩ (.int .i64 0)).setCell ⟨w.heap.size + 1, 1, none⟩ (.int .i64 0)).setCell ⟨w.heap.size + 1, 2, none⟩ (.int .i64 0)).setCell ⟨w.heap.size + 1, 3, none⟩ (.slice none 0 0)).heap.size = wb.heap.size := by simp only [World.size_set]
    generalize ((((wb.setCell ⟨w.heap.size + 1, 0, none⟩ (.int .i64 0)).setCell ⟨w.heap.size + 1, 1, none⟩ (.int .i64 0)).setCell ⟨w.heap.size + 1, 2, none⟩ (.int .i64 0)).setCell ⟨w.heap.size + 1, 3, none⟩ (.slice none 0 0)) = WF at *
    refine bodyPost_ret (v := .agg #[.int .i64 0, .int .i64 0, .int .i64 0, .slice none 0 0]) (by simp [results, Try.results17, go_sem, r0, r1, r2, r3]) rfl ?_
    have hRW : mpRow zs n kd f = [] := by unfold mpRow; rw [HP.out]; rfl
    rw [hRW, HP.out]
    exact ⟨none, 0, 0, rfl, ⟨fun _ => rfl, Nat.le_refl _, by decide⟩, OwnR.none_ _ _ _ _, M⟩
  · rw [q1] at he
    subst he
    have Q1 := Lib.hid q1
    clear q1
    go_wp2_with fail
    refine (implPK kd _).mono ?_
    rintro e w3 ⟨he, m3⟩
    cases q2 : inB kd 1 4
    · rw [q2] at he
      subst he
      replace M := M.trans m3
      replace k0 := m3.cellAt k0
      replace k1 := m3.cellAt k1
      replace k2 := m3.cellAt k2
      replace r0 := m3.cellAt r0
      replace r1 := m3.cellAt r1
      replace r2 := m3.cellAt r2
      replace r3 := m3.cellAt r3
      replace fR := fun q => (m3.frozen (b := w.heap.size + 1) (o := q) (by omega) (.inr (Nat.zero_le _))).trans (fR q)
      have HP := Lib.hid (show mpB n kd f = false by unfold mpB; rw [Q1.out, q2]; first | done | rfl | simp)
      go_wp2_with fail
      replace r0 := World.cell?_setCell_same _ _ (.int .i64 0) r0
      replace r1 := cell_set r1 ⟨w.heap.size + 1, 0, none⟩ (.int .i64 0) (.inr (by simp))
      replace r2 := cell_set r2 ⟨w.heap.size + 1, 0, none⟩ (.int .i64 0) (.inr (by simp))
      replace r3 := cell_set r3 ⟨w.heap.size + 1, 0, none⟩ (.int .i64 0) (.inr (by simp))
      replace M := M.put ⟨w.heap.size + 1, 0, none⟩ (.int .i64 0) (show w.heap.size ≤ w.heap.size + 1 from by omega)
      replace r0 := cell_set r0 ⟨w.heap.size + 1, 1, none⟩ (.int .i64 0) (.inr (by simp))
      replace r1 := World.cell?_setCell_same _ _ (.int .i64 0) r1
      replace r2 := cell_set r2 ⟨w.heap.size + 1, 1, none⟩ (.int .i64 0) (.inr (by simp))
      replace r3 := cell_set r3 ⟨w.heap.size + 1, 1, none⟩ (.int .i64 0) (.inr (by simp))
      replace M := M.put ⟨w.heap.size + 1, 1, none⟩ (.int .i64 0) (show w.heap.size ≤ w.heap.size + 1 from by omega)
      replace r0 := cell_set r0 ⟨w.heap.size + 1, 2, none⟩ (.int .i64 0) (.inr (by simp))
      replace r1 := cell_set r1 ⟨w.heap.size + 1, 2, none⟩ (.int .i64 0) (.inr (by simp))
      replace r2 := World.cell?_setCell_same _ _ (.int .i64 0) r2
      replace r3 := cell_set r3 ⟨w.heap.size + 1, 2, none⟩ (.int .i64 0) (.inr (by simp))
      replace M := M.put ⟨w.heap.size + 1, 2, none⟩ (.int .i64 0) (show w.heap.size ≤ w.heap.size + 1 from by omega)
      replace r0 := cell_set r0 ⟨w.heap.size + 1, 3, none⟩ (.slice none 0 0) (.inr (by simp))
      replace r1 := cell_set r1 ⟨w.heap.size + 1, 3, none⟩ (.slice none 0 0) (.inr (by simp))
      replace r2 := cell_set r2 ⟨w.heap.size + 1, 3, none⟩ (.slice none 0 0) (.inr (by simp))
      replace r3 := World.cell?_setCell_same _ _ (.slice none 0 0) r3
      replace M := M.put ⟨w.heap.size + 1, 3, none⟩ (.slice none 0 0) (show w.heap.size ≤ w.heap.size + 1 from by omega)
      have zF : ((((w3.setCell ⟨w.heap.size + 1, 0, none⟩ (.int .i64 0)).setCell ⟨w.heap.size + 1, 1, none⟩ (.int .i64 0)).setCell ⟨w.heap.size + 1, 2, none⟩ (.int .i64 0)).setCell ⟨w.heap.size + 1, 3, none⟩ (.slice none 0 0)).heap.size = w3.heap.size := by simp only [World.size_set]
      generalize ((((w3.setCell ⟨w.heap.size + 1, 0, none⟩ (.int .i64 0)).setCell ⟨w.heap.size + 1, 1, none⟩ (.int .i64 0)).setCell ⟨w.heap.size + 1, 2, none⟩ (.int .i64 0)).setCell ⟨w.heap.size + 1, 3, none⟩ (.slice none 0 0)) = WF at *
      refine bodyPost_ret (v := .agg #[.int .i64 0, .int .i64 0, .int .i64 0, .slice none 0 0]) (by simp [results, Try.results17, go_sem, r0, r1, r2, r3]) rfl ?_
      have hRW : mpRow zs n kd f = [] := by unfold mpRow; rw [HP.out]; rfl
      rw [hRW, HP.out]
      exact ⟨none, 0, 0, rfl, ⟨fun _ => rfl, Nat.le_refl _, by decide⟩, OwnR.none_ _ _ _ _, M⟩
    · rw [q2] at he
      subst he
      replace M := M.trans m3
      replace k0 := m3.cellAt k0
      replace k1 := m3.cellAt k1
      replace k2 := m3.cellAt k2
      replace r0 := m3.cellAt r0
      replace r1 := m3.cellAt r1
      replace r2 := m3.cellAt r2
      replace r3 := m3.cellAt r3
      replace fR := fun q => (m3.frozen (b := w.heap.size + 1) (o := q) (by omega) (.inr (Nat.zero_le _))).trans (fR q)
      have HP := Lib.hid (show mpB n kd f = true by unfold mpB; rw [Q1.out, q2]; rfl)
      clear q2
      have hf : 0 ≤ f ∧ f ≤ (n : Int) - 1 := of_decide_eq_true Q1.out
      obtain ⟨m, rfl⟩ : ∃ m : Nat, f = (m : Int) := ⟨f.toNat, by omega⟩
      have hmn : m < n := by omega
      clear hf Q1
      obtain ⟨b, off, rfl, hb, _⟩ := h.2 (by omega)
      have hdr := HasR.drop (nc := 5) (cell := THop.cell) h (Nat.le_of_lt hmn)
      have hz3 := M.size
      have hz3b := m3.size
      go_wp2_with fail
      obtain ⟨β, hβ⟩ : ∃ β, Hid (β = betaV x1 zs n (m : Int)) := ⟨_, Lib.hid rfl⟩
      have yk : w.heap.size < w3.heap.size := by omega
      have yr : w.heap.size + 1 < w3.heap.size := by omega
      refine wp_region_fg (fun (g : Bxs) w' => (Mk0 w3 w' ∧ w'.cell? ⟨w.heap.size, 0, none⟩ = some (.int .i64 x0) ∧ w'.cell? ⟨w.heap.size, 1, none⟩ = some (.int .i64 x1) ∧ w'.cell? ⟨w.heap.size, 2, none⟩ = some (.slice (some ⟨b, off, none⟩) n c) ∧ w'.cell? ⟨w.heap.size + 1, 0, none⟩ = some (.int .i64 0) ∧ w'.cell? ⟨w.heap.size + 1, 1, none⟩ = some (.int .i64 0) ∧ w'.cell? ⟨w.heap.size + 1, 2, none⟩ = some (.int .i64 0) ∧ w'.cell? ⟨w.heap.size + 1, 3, none⟩ = some (.slice none 0 0)) ∧ BxS w3.heap.size g w') (fgF [fun g v wv => v = .int .i64 kd, fun g v wv => v = .pointer (some ⟨w.heap.size, 0, none⟩), fun g v wv => v = .int .i64 x0, fun g v wv => v = .agg #[.int .i64 x0, .int .i64 x1, .slice (some ⟨b, off, none⟩) n c], fun g v wv => v = .int .i64 (m : Int), fun g v wv => v = .int .i64 β, fun g v wv => v = .pointer (some ⟨w.heap.size, 2, none⟩), fun g v wv => v = .slice (some ⟨b, off, none⟩) n c, fun g v wv => v = .int .i64 (m : Int), fun g v wv => v = .slice (some ⟨b, off + m * 5, none⟩) (n - m) (c - m), fun g v wv => ∃ A N C lo hi, v = .slice A N C ∧ ((A = none → C = 0) ∧ (N ≤ C ∧ C ≤ 9223372036854775807)) ∧ w3.heap.size ≤ lo ∧ lo ≤ hi ∧ hi ≤ wv.heap.size ∧ OwnHop wv lo hi A N (zs.drop m) ∧ BxA g lo hi, fun g v wv => ∃ A N C lo hi, v = .agg #[.int .i64 kd, .int .i64 x0, .int .i64 β, .slice A N C] ∧ ((A = none → C = 0) ∧ (N ≤ C ∧ C ≤ 9223372036854775807)) ∧ w3.heap.size ≤ lo ∧ lo ≤ hi ∧ hi ≤ wv.heap.size ∧ OwnHop wv lo hi A N (zs.drop m) ∧ BxA g lo hi, fun g v wv => BxZ g 12 [.int .i64 0, .int .i64 0, .int .i64 0, .slice none 0 0] v wv]) BxX (fun _ _ => False) 14 13 (by kernel_rfl) (by kernel_rfl) (by decide) (by decide) (by kernel_rfl) (fun h => absurd h (by decide)) (fgM_mono ⟨fun g g' v wv w' h x => h, fun g g' v wv w' h x => h, fun g g' v wv w' h x => h, fun g g' v wv w' h x => h, fun g g' v wv w' h x => h, fun g g' v wv w' h x => h, fun g g' v wv w' h x => h, fun g g' v wv w' h x => h, fun g g' v wv w' h x => h, fun g g' v wv w' h x => h, fun g g' v wv w' h x => (by obtain ⟨A, N, C, lo, hi, h1, h2, h3, h4, h5, h6, h7⟩ := h; exact ⟨A, N, C, lo, hi, h1, h2, h3, h4, Nat.le_trans h5 x.far.size, h6.mk x.far h5 (.inr (.inr (Nat.le_refl _))), h7.step x h5⟩), fun g g' v wv w' h x => (by obtain ⟨A, N, C, lo, hi, h1, h2, h3, h4, h5, h6, h7⟩ := h; exact ⟨A, N, C, lo, hi, h1, h2, h3, h4, Nat.le_trans h5 x.far.size, h6.mk x.far h5 (.inr (.inr (Nat.le_refl _))), h7.step x h5⟩), fun g g' v wv w' h x => h.step x, trivial⟩) ⟨⟨Mk.drew1 _, k0, k1, k2, r0, r1, r2, r3⟩, BxS.none_ _ _⟩ ?_
      change WkG _ _ _ _ _ _ 14 13 13 0 _
      refine WkG.value (m := 12) (k := 0) (by decide) rfl rfl (of_decide_eq_true (by rfl)) rfl (fun g wv hS hF => ?_) (fun v0 => ?_)
      · obtain ⟨⟨s0, s1, s2, s3, s4, s5, s6, s7⟩, hB2⟩ := hS
        exact ⟨.int .i64 kd, wv, g, (by go_simp; try with_reducible rfl), ⟨⟨s0, s1, s2, s3, s4, s5, s6, s7⟩, hB2⟩, BxX.same (Mk.refl _ _ _), rfl⟩
      try simp only [Act.put, List.getElem_toArray, List.getElem_cons_zero, List.setIfInBounds_toArray, List.set_cons_zero, List.set_cons_succ]
      refine WkG.value (m := 11) (k := 1) (by decide) rfl rfl (of_decide_eq_true (by rfl)) rfl (fun g wv hS hF => ?_) (fun v1 => ?_)
      · obtain ⟨⟨s0, s1, s2, s3, s4, s5, s6, s7⟩, hB2⟩ := hS
        exact ⟨.pointer (some ⟨w.heap.size, 0, none⟩), wv, g, (by go_simp; try with_reducible rfl), ⟨⟨s0, s1, s2, s3, s4, s5, s6, s7⟩, hB2⟩, BxX.same (Mk.refl _ _ _), rfl⟩
      try simp only [Act.put, List.getElem_toArray, List.getElem_cons_succ, List.getElem_cons_zero, List.setIfInBounds_toArray, List.set_cons_zero, List.set_cons_succ]
      refine WkG.value (m := 10) (k := 2) (by decide) rfl rfl (of_decide_eq_true (by rfl)) rfl (fun g wv hS hF => ?_) (fun v2 => ?_)
      · obtain ⟨⟨s0, s1, s2, s3, s4, s5, s6, s7⟩, hB2⟩ := hS
        have f1 : v1 = .pointer (some ⟨w.heap.size, 0, none⟩) := hF 1 (by rfl)
        obtain rfl := f1
        exact ⟨.int .i64 x0, wv, g, (by go_simp; try with_reducible rfl), ⟨⟨s0, s1, s2, s3, s4, s5, s6, s7⟩, hB2⟩, BxX.same (Mk.refl _ _ _), rfl⟩
      try simp only [Act.put, List.getElem_toArray, List.getElem_cons_succ, List.getElem_cons_zero, List.setIfInBounds_toArray, List.set_cons_zero, List.set_cons_succ]
      refine WkG.value (m := 9) (k := 3) (by decide) rfl rfl (of_decide_eq_true (by rfl)) rfl (fun g wv hS hF => ?_) (fun v3 => ?_)
      · obtain ⟨⟨s0, s1, s2, s3, s4, s5, s6, s7⟩, hB2⟩ := hS
        exact ⟨.agg #[.int .i64 x0, .int .i64 x1, .slice (some ⟨b, off, none⟩) n c], wv, g, (by go_simp; try with_reducible rfl), ⟨⟨s0, s1, s2, s3, s4, s5, s6, s7⟩, hB2⟩, BxX.same (Mk.refl _ _ _), rfl⟩
      try simp only [Act.put, List.getElem_toArray, List.getElem_cons_succ, List.getElem_cons_zero, List.setIfInBounds_toArray, List.set_cons_zero, List.set_cons_succ]
      refine WkG.value (m := 8) (k := 4) (by decide) rfl rfl (of_decide_eq_true (by rfl)) rfl (fun g wv hS hF => ?_) (fun v4 => ?_)
      · obtain ⟨⟨s0, s1, s2, s3, s4, s5, s6, s7⟩, hB2⟩ := hS
        exact ⟨.int .i64 (m : Int), wv, g, (by go_simp; try with_reducible rfl), ⟨⟨s0, s1, s2, s3, s4, s5, s6, s7⟩, hB2⟩, BxX.same (Mk.refl _ _ _), rfl⟩
      try simp only [Act.put, List.getElem_toArray, List.getElem_cons_succ, List.getElem_cons_zero, List.setIfInBounds_toArray, List.set_cons_zero, List.set_cons_succ]
      refine WkG.call (m := 7) (k := 5) (by decide) rfl rfl (of_decide_eq_true (by rfl)) rfl (fun g wv hS hF => ?_) (fun v5 => ?_)
      · obtain ⟨⟨s0, s1, s2, s3, s4, s5, s6, s7⟩, hB2⟩ := hS
        have f3 : v3 = .agg #[.int .i64 x0, .int .i64 x1, .slice (some ⟨b, off, none⟩) n c] := hF 3 (by rfl)
        obtain rfl := f3
        have f4 : v4 = .int .i64 (m : Int) := hF 4 (by rfl)
        obtain rfl := f4
        refine ⟨_, _, (by go_simp; first | done | exact ⟨rfl, rfl⟩ | with_reducible rfl), ?_⟩
        refine ((implBetaAt x0 x1 (some ⟨b, off, none⟩) n c B zs (m : Int) wv (h.mk (M.trans s0) hB (.inr (Nat.le_refl _))) (Nat.le_trans hB (M.trans s0).size) hn)).mono ?_
        rintro e w' ⟨rfl, mm⟩
        exact ⟨_, g, rfl, ⟨⟨s0.trans mm, mm.cellAt s1, mm.cellAt s2, mm.cellAt s3, mm.cellAt s4, mm.cellAt s5, mm.cellAt s6, mm.cellAt s7⟩, hB2.mk0 mm⟩, BxX.same mm, (show Value.int .i64 (betaV x1 zs n (m : Int)) = .int .i64 β by rw [hβ.out])⟩
      try simp only [Act.put, List.getElem_toArray, List.getElem_cons_succ, List.getElem_cons_zero, List.setIfInBounds_toArray, List.set_cons_zero, List.set_cons_succ]
      refine WkG.value (m := 6) (k := 6) (by decide) rfl rfl (of_decide_eq_true (by rfl)) rfl (fun g wv hS hF => ?_) (fun v6 => ?_)
      · obtain ⟨⟨s0, s1, s2, s3, s4, s5, s6, s7⟩, hB2⟩ := hS
        exact ⟨.pointer (some ⟨w.heap.size, 2, none⟩), wv, g, (by go_simp; try with_reducible rfl), ⟨⟨s0, s1, s2, s3, s4, s5, s6, s7⟩, hB2⟩, BxX.same (Mk.refl _ _ _), rfl⟩
      try simp only [Act.put, List.getElem_toArray, List.getElem_cons_succ, List.getElem_cons_zero, List.setIfInBounds_toArray, List.set_cons_zero, List.set_cons_succ]
      refine WkG.value (m := 5) (k := 7) (by decide) rfl rfl (of_decide_eq_true (by rfl)) rfl (fun g wv hS hF => ?_) (fun v7 => ?_)
      · obtain ⟨⟨s0, s1, s2, s3, s4, s5, s6, s7⟩, hB2⟩ := hS
        have f6 : v6 = .pointer (some ⟨w.heap.size, 2, none⟩) := hF 6 (by rfl)
        obtain rfl := f6
        exact ⟨.slice (some ⟨b, off, none⟩) n c, wv, g, (by go_simp; try with_reducible rfl), ⟨⟨s0, s1, s2, s3, s4, s5, s6, s7⟩, hB2⟩, BxX.same (Mk.refl _ _ _), rfl⟩
      try simp only [Act.put, List.getElem_toArray, List.getElem_cons_succ, List.getElem_cons_zero, List.setIfInBounds_toArray, List.set_cons_zero, List.set_cons_succ]
      refine WkG.value (m := 4) (k := 8) (by decide) rfl rfl (of_decide_eq_true (by rfl)) rfl (fun g wv hS hF => ?_) (fun v8 => ?_)
      · obtain ⟨⟨s0, s1, s2, s3, s4, s5, s6, s7⟩, hB2⟩ := hS
        exact ⟨.int .i64 (m : Int), wv, g, (by go_simp; try with_reducible rfl), ⟨⟨s0, s1, s2, s3, s4, s5, s6, s7⟩, hB2⟩, BxX.same (Mk.refl _ _ _), rfl⟩
      try simp only [Act.put, List.getElem_toArray, List.getElem_cons_succ, List.getElem_cons_zero, List.setIfInBounds_toArray, List.set_cons_zero, List.set_cons_succ]
      refine WkG.value (m := 3) (k := 9) (by decide) rfl rfl (of_decide_eq_true (by rfl)) rfl (fun g wv hS hF => ?_) (fun v9 => ?_)
      · obtain ⟨⟨s0, s1, s2, s3, s4, s5, s6, s7⟩, hB2⟩ := hS
        have f7 : v7 = .slice (some ⟨b, off, none⟩) n c := hF 7 (by rfl)
        obtain rfl := f7
        have f8 : v8 = .int .i64 (m : Int) := hF 8 (by rfl)
        obtain rfl := f8
        have j1 : (0 : Int) ≤ (m : Int) := by omega
        have j2 : (m : Int) ≤ (n : Int) := by omega
        have j3 : (n : Int) ≤ (c : Int) := by omega
        have j4 : ¬ c = m := by omega
        exact ⟨.slice (some ⟨b, off + m * 5, none⟩) (n - m) (c - m), wv, g, (by go_simp; try with_reducible rfl), ⟨⟨s0, s1, s2, s3, s4, s5, s6, s7⟩, hB2⟩, BxX.same (Mk.refl _ _ _), rfl⟩
      try simp only [Act.put, List.getElem_toArray, List.getElem_cons_succ, List.getElem_cons_zero, List.setIfInBounds_toArray, List.set_cons_zero, List.set_cons_succ]
      refine WkG.call (m := 2) (k := 10) (by decide) rfl rfl (of_decide_eq_true (by rfl)) rfl (fun g wv hS hF => ?_) (fun v10 => ?_)
      · obtain ⟨⟨s0, s1, s2, s3, s4, s5, s6, s7⟩, hB2⟩ := hS
        have f9 : v9 = .slice (some ⟨b, off + m * 5, none⟩) (n - m) (c - m) := hF 9 (by rfl)
        obtain rfl := f9
        refine ⟨_, _, (by go_simp; first | done | exact ⟨rfl, rfl⟩ | with_reducible rfl), ?_⟩
        refine (((cloneHop (some ⟨b, off + m * 5, none⟩) (n - m) (c - m) B (zs.drop m) wv (hdr.mk (M.trans s0) hB (.inr (Nat.le_refl _))) (Nat.le_trans hB (M.trans s0).size) (by omega) (fun h => by cases h) (by omega)).mono fun _ _ q => q.rows (by decide))).mono ?_
        rintro e w' ⟨A, N, C, rfl, hc, ow, mm⟩
        exact ⟨_, g, rfl, ⟨⟨s0.trans mm, mm.cellAt s1, mm.cellAt s2, mm.cellAt s3, mm.cellAt s4, mm.cellAt s5, mm.cellAt s6, mm.cellAt s7⟩, hB2.mk0 mm⟩, BxX.same mm, ⟨A, N, C, wv.heap.size, w'.heap.size, rfl, hc, s0.size, mm.size, Nat.le_refl _, ow, BxA.of hB2⟩⟩
      try simp only [Act.put, List.getElem_toArray, List.getElem_cons_succ, List.getElem_cons_zero, List.setIfInBounds_toArray, List.set_cons_zero, List.set_cons_succ]
      refine WkG.value (m := 1) (k := 11) (by decide) rfl rfl (of_decide_eq_true (by rfl)) rfl (fun g wv hS hF => ?_) (fun v11 => ?_)
      · obtain ⟨⟨s0, s1, s2, s3, s4, s5, s6, s7⟩, hB2⟩ := hS
        have f0 : v0 = .int .i64 kd := hF 0 (by rfl)
        obtain rfl := f0
        have f2 : v2 = .int .i64 x0 := hF 2 (by rfl)
        obtain rfl := f2
        have f5 : v5 = .int .i64 β := hF 5 (by rfl)
        obtain rfl := f5
        have f10 : ∃ A N C lo hi, v10 = .slice A N C ∧ ((A = none → C = 0) ∧ (N ≤ C ∧ C ≤ 9223372036854775807)) ∧ w3.heap.size ≤ lo ∧ lo ≤ hi ∧ hi ≤ wv.heap.size ∧ OwnHop wv lo hi A N (zs.drop m) ∧ BxA g lo hi := hF 10 (by rfl)
        obtain ⟨A, N, C, lo, hi, rfl, h2, h3, h4, h5, h6, h7⟩ := f10
        exact ⟨.agg #[.int .i64 kd, .int .i64 x0, .int .i64 β, .slice A N C], wv, g, (by go_simp; try with_reducible rfl), ⟨⟨s0, s1, s2, s3, s4, s5, s6, s7⟩, hB2⟩, BxX.same (Mk.refl _ _ _), ⟨A, N, C, lo, hi, rfl, h2, h3, h4, h5, h6, h7⟩⟩
      try simp only [Act.put, List.getElem_toArray, List.getElem_cons_succ, List.getElem_cons_zero, List.setIfInBounds_toArray, List.set_cons_zero, List.set_cons_succ]
      refine WkG.value (m := 0) (k := 12) (by decide) rfl rfl (of_decide_eq_true (by rfl)) rfl (fun g wv hS hF => ?_) (fun v12 => ?_)
      · obtain ⟨⟨s0, s1, s2, s3, s4, s5, s6, s7⟩, hB2⟩ := hS
        have mm := Mk.alloc wv (Obj.cells #[.int .i64 0, .int .i64 0, .int .i64 0, .slice none 0 0] 35)
        exact ⟨.pointer (some ⟨wv.heap.size, 0, none⟩), (wv.alloc (Obj.cells #[.int .i64 0, .int .i64 0, .int .i64 0, .slice none 0 0] 35)), bxP g 12 wv.heap.size, (by go_simp; try with_reducible rfl), ⟨⟨s0.trans mm, mm.cellAt s1, mm.cellAt s2, mm.cellAt s3, mm.cellAt s4, mm.cellAt s5, mm.cellAt s6, mm.cellAt s7⟩, hB2.put s0.size 12 (Obj.cells #[.int .i64 0, .int .i64 0, .int .i64 0, .slice none 0 0] 35)⟩, BxX.put 12 (Obj.cells #[.int .i64 0, .int .i64 0, .int .i64 0, .slice none 0 0] 35), BxZ.new g 12 [.int .i64 0, .int .i64 0, .int .i64 0, .slice none 0 0] 35 wv⟩
      try simp only [Act.put, List.getElem_toArray, List.getElem_cons_succ, List.getElem_cons_zero, List.setIfInBounds_toArray, List.set_cons_zero, List.set_cons_succ]
      refine WkG.done fun gE wE hE hF => ?_
      clear k0 k1 k2 r0 r1 r2 r3
      obtain ⟨⟨mE, k0, k1, k2, r0, r1, r2, r3⟩, hBE⟩ := hE
      change wpAny _ _ _ _ 1 _ _ _
      have f11 : ∃ A N C lo hi, v11 = .agg #[.int .i64 kd, .int .i64 x0, .int .i64 β, .slice A N C] ∧ ((A = none → C = 0) ∧ (N ≤ C ∧ C ≤ 9223372036854775807)) ∧ w3.heap.size ≤ lo ∧ lo ≤ hi ∧ hi ≤ wE.heap.size ∧ OwnHop wE lo hi A N (zs.drop m) ∧ BxA gE lo hi := hF 11 (by decide)
      obtain ⟨A, N, C, lo, hi, rfl, hc, hlo, hlh, hhi, hO, hA⟩ := f11
      have f12 : BxZ gE 12 [.int .i64 0, .int .i64 0, .int .i64 0, .slice none 0 0] v12 wE := hF 12 (by decide)
      obtain ⟨P, hgP, rfl, hPs, hz, hfP⟩ := f12
      have hs := hA 12 P hgP
      have hPl := hBE.lo 12 P hgP
      have p0 := hz 0 _ rfl
      have p1 := hz 1 _ rfl
      have p2 := hz 2 _ rfl
      have p3 := hz 3 _ rfl
      clear hF
      refine wpAny_ready (rs := [13]) (by kernel_rfl) (by simp) ?_
      refine (AllReady.cons rfl (fun K hK => ?_) AllReady.nil)
      go_simp
      refine hK _ _ ?_
      clear hK K
      try simp only [Act.put, List.getElem_toArray, List.getElem_cons_succ, List.getElem_cons_zero, List.setIfInBounds_toArray, List.set_cons_zero, List.set_cons_succ]
      have nk : P ≠ w.heap.size := by omega
      have nr : P ≠ w.heap.size + 1 := by omega
      replace p0 := World.cell?_setCell_same _ _ (.int .i64 kd) p0
      replace p1 := cell_set p1 ⟨P, 0, none⟩ (.int .i64 kd) (.inr (by simp))
      replace p2 := cell_set p2 ⟨P, 0, none⟩ (.int .i64 kd) (.inr (by simp))
      replace p3 := cell_set p3 ⟨P, 0, none⟩ (.int .i64 kd) (.inr (by simp))
      replace k0 := cell_set k0 ⟨P, 0, none⟩ (.int .i64 kd) (.inl nk)
      replace k1 := cell_set k1 ⟨P, 0, none⟩ (.int .i64 kd) (.inl nk)
      replace k2 := cell_set k2 ⟨P, 0, none⟩ (.int .i64 kd) (.inl nk)
      replace r0 := cell_set r0 ⟨P, 0, none⟩ (.int .i64 kd) (.inl nr)
      replace r1 := cell_set r1 ⟨P, 0, none⟩ (.int .i64 kd) (.inl nr)
      replace r2 := cell_set r2 ⟨P, 0, none⟩ (.int .i64 kd) (.inl nr)
      replace r3 := cell_set r3 ⟨P, 0, none⟩ (.int .i64 kd) (.inl nr)
      replace hfP := fun q => frozen_set (hfP q) ⟨P, 0, none⟩ (.int .i64 kd)
      replace hO := hO.set ⟨P, 0, none⟩ (.int .i64 kd) hs
      replace mE := mE.put ⟨P, 0, none⟩ (.int .i64 kd) hPl
      replace p0 := cell_set p0 ⟨P, 1, none⟩ (.int .i64 x0) (.inr (by simp))
      replace p1 := World.cell?_setCell_same _ _ (.int .i64 x0) p1
      replace p2 := cell_set p2 ⟨P, 1, none⟩ (.int .i64 x0) (.inr (by simp))
      replace p3 := cell_set p3 ⟨P, 1, none⟩ (.int .i64 x0) (.inr (by simp))
      replace k0 := cell_set k0 ⟨P, 1, none⟩ (.int .i64 x0) (.inl nk)
      replace k1 := cell_set k1 ⟨P, 1, none⟩ (.int .i64 x0) (.inl nk)
      replace k2 := cell_set k2 ⟨P, 1, none⟩ (.int .i64 x0) (.inl nk)
      replace r0 := cell_set r0 ⟨P, 1, none⟩ (.int .i64 x0) (.inl nr)
      replace r1 := cell_set r1 ⟨P, 1, none⟩ (.int .i64 x0) (.inl nr)
      replace r2 := cell_set r2 ⟨P, 1, none⟩ (.int .i64 x0) (.inl nr)
      replace r3 := cell_set r3 ⟨P, 1, none⟩ (.int .i64 x0) (.inl nr)
      replace hfP := fun q => frozen_set (hfP q) ⟨P, 1, none⟩ (.int .i64 x0)
      replace hO := hO.set ⟨P, 1, none⟩ (.int .i64 x0) hs
      replace mE := mE.put ⟨P, 1, none⟩ (.int .i64 x0) hPl
      replace p0 := cell_set p0 ⟨P, 2, none⟩ (.int .i64 β) (.inr (by simp))
      replace p1 := cell_set p1 ⟨P, 2, none⟩ (.int .i64 β) (.inr (by simp))
      replace p2 := World.cell?_setCell_same _ _ (.int .i64 β) p2
      replace p3 := cell_set p3 ⟨P, 2, none⟩ (.int .i64 β) (.inr (by simp))
      replace k0 := cell_set k0 ⟨P, 2, none⟩ (.int .i64 β) (.inl nk)
      replace k1 := cell_set k1 ⟨P, 2, none⟩ (.int .i64 β) (.inl nk)
      replace k2 := cell_set k2 ⟨P, 2, none⟩ (.int .i64 β) (.inl nk)
      replace r0 := cell_set r0 ⟨P, 2, none⟩ (.int .i64 β) (.inl nr)
      replace r1 := cell_set r1 ⟨P, 2, none⟩ (.int .i64 β) (.inl nr)
      replace r2 := cell_set r2 ⟨P, 2, none⟩ (.int .i64 β) (.inl nr)
      replace r3 := cell_set r3 ⟨P, 2, none⟩ (.int .i64 β) (.inl nr)
      replace hfP := fun q => frozen_set (hfP q) ⟨P, 2, none⟩ (.int .i64 β)
      replace hO := hO.set ⟨P, 2, none⟩ (.int .i64 β) hs
      replace mE := mE.put ⟨P, 2, none⟩ (.int .i64 β) hPl
      replace p0 := cell_set p0 ⟨P, 3, none⟩ (.slice A N C) (.inr (by simp))
      replace p1 := cell_set p1 ⟨P, 3, none⟩ (.slice A N C) (.inr (by simp))
      replace p2 := cell_set p2 ⟨P, 3, none⟩ (.slice A N C) (.inr (by simp))
      replace p3 := World.cell?_setCell_same _ _ (.slice A N C) p3
      replace k0 := cell_set k0 ⟨P, 3, none⟩ (.slice A N C) (.inl nk)
      replace k1 := cell_set k1 ⟨P, 3, none⟩ (.slice A N C) (.inl nk)
      replace k2 := cell_set k2 ⟨P, 3, none⟩ (.slice A N C) (.inl nk)
      replace r0 := cell_set r0 ⟨P, 3, none⟩ (.slice A N C) (.inl nr)
      replace r1 := cell_set r1 ⟨P, 3, none⟩ (.slice A N C) (.inl nr)
      replace r2 := cell_set r2 ⟨P, 3, none⟩ (.slice A N C) (.inl nr)
      replace r3 := cell_set r3 ⟨P, 3, none⟩ (.slice A N C) (.inl nr)
      replace hfP := fun q => frozen_set (hfP q) ⟨P, 3, none⟩ (.slice A N C)
      replace hO := hO.set ⟨P, 3, none⟩ (.slice A N C) hs
      replace mE := mE.put ⟨P, 3, none⟩ (.slice A N C) hPl
      have zq : ((((wE.setCell ⟨P, 0, none⟩ (.int .i64 kd)).setCell ⟨P, 1, none⟩ (.int .i64 x0)).setCell ⟨P, 2, none⟩ (.int .i64 β)).setCell ⟨P, 3, none⟩ (.slice A N C)).heap.size = wE.heap.size := by simp only [World.size_set]
      clear hz hA hgP hBE
      generalize ((((wE.setCell ⟨P, 0, none⟩ (.int .i64 kd)).setCell ⟨P, 1, none⟩ (.int .i64 x0)).setCell ⟨P, 2, none⟩ (.int .i64 β)).setCell ⟨P, 3, none⟩ (.slice A N C)) = w5 at *
      rw [← zq] at hhi hPs
      clear zq
      have fR5 : ∀ q, w5.frozen? ⟨w.heap.size + 1, q, none⟩ = false := fun q => (mE.frozen (b := w.heap.size + 1) (o := q) yr (.inr (Nat.zero_le _))).trans (fR q)
      have M5 := M.trans mE
      clear fR mE M hdr
      refine wpAny_doneN (by kernel_rfl) ?_
      refine ‹∀ (a : Act) (w : World), _ → _› _ _ ?_
      go_wp2_with fail
      refine (implRev kd _).mono ?_
      rintro e w6 ⟨he, m6⟩
      have M6 := M5.trans m6
      replace k0 := m6.cellAt k0
      replace k1 := m6.cellAt k1
      replace k2 := m6.cellAt k2
      replace r0 := m6.cellAt r0
      replace r1 := m6.cellAt r1
      replace r2 := m6.cellAt r2
      replace r3 := m6.cellAt r3
      replace p0 := m6.cellAt p0
      replace p1 := m6.cellAt p1
      replace p2 := m6.cellAt p2
      replace p3 := m6.cellAt p3
      replace fR5 := fun q => (m6.frozen (b := w.heap.size + 1) (o := q) (by omega) (.inr (Nat.zero_le _))).trans (fR5 q)
      replace hfP := fun q => (m6.frozen (b := P) (o := q) hPs (.inr (Nat.zero_le _))).trans (hfP q)
      replace hO := hO.mk m6 hhi (.inr (.inr (Nat.le_refl _)))
      have z6 := m6.size
      clear m6 M5
      cases q3 : revB kd
      · have HR := Lib.hid (show mpRow zs n kd (m : Int) = zs.drop m by unfold mpRow; rw [HP.out, q3]; rfl)
        have HBt := Lib.hid (show mpBeta x1 zs n kd (m : Int) = β by unfold mpBeta; rw [q3, if_neg (by decide), hβ.out])
        rw [q3] at he
        subst he
        clear q3
        go_wp2_with fail
        replace r0 := World.cell?_setCell_same _ _ (.int .i64 kd) r0
        replace r1 := cell_set r1 ⟨w.heap.size + 1, 0, none⟩ (.int .i64 kd) (.inr (by simp))
        replace r2 := cell_set r2 ⟨w.heap.size + 1, 0, none⟩ (.int .i64 kd) (.inr (by simp))
        replace r3 := cell_set r3 ⟨w.heap.size + 1, 0, none⟩ (.int .i64 kd) (.inr (by simp))
        replace hO := hO.set ⟨w.heap.size + 1, 0, none⟩ (.int .i64 kd) (.inl (show w.heap.size + 1 < _ from by omega))
        replace M6 := M6.put ⟨w.heap.size + 1, 0, none⟩ (.int .i64 kd) (show w.heap.size ≤ w.heap.size + 1 from by omega)
        replace r0 := cell_set r0 ⟨w.heap.size + 1, 1, none⟩ (.int .i64 x0) (.inr (by simp))
        replace r1 := World.cell?_setCell_same _ _ (.int .i64 x0) r1
        replace r2 := cell_set r2 ⟨w.heap.size + 1, 1, none⟩ (.int .i64 x0) (.inr (by simp))
        replace r3 := cell_set r3 ⟨w.heap.size + 1, 1, none⟩ (.int .i64 x0) (.inr (by simp))
        replace hO := hO.set ⟨w.heap.size + 1, 1, none⟩ (.int .i64 x0) (.inl (show w.heap.size + 1 < _ from by omega))
        replace M6 := M6.put ⟨w.heap.size + 1, 1, none⟩ (.int .i64 x0) (show w.heap.size ≤ w.heap.size + 1 from by omega)
        replace r0 := cell_set r0 ⟨w.heap.size + 1, 2, none⟩ (.int .i64 β) (.inr (by simp))
        replace r1 := cell_set r1 ⟨w.heap.size + 1, 2, none⟩ (.int .i64 β) (.inr (by simp))
        replace r2 := World.cell?_setCell_same _ _ (.int .i64 β) r2
        replace r3 := cell_set r3 ⟨w.heap.size + 1, 2, none⟩ (.int .i64 β) (.inr (by simp))
        replace hO := hO.set ⟨w.heap.size + 1, 2, none⟩ (.int .i64 β) (.inl (show w.heap.size + 1 < _ from by omega))
        replace M6 := M6.put ⟨w.heap.size + 1, 2, none⟩ (.int .i64 β) (show w.heap.size ≤ w.heap.size + 1 from by omega)
        replace r0 := cell_set r0 ⟨w.heap.size + 1, 3, none⟩ (.slice A N C) (.inr (by simp))
        replace r1 := cell_set r1 ⟨w.heap.size + 1, 3, none⟩ (.slice A N C) (.inr (by simp))
        replace r2 := cell_set r2 ⟨w.heap.size + 1, 3, none⟩ (.slice A N C) (.inr (by simp))
        replace r3 := World.cell?_setCell_same _ _ (.slice A N C) r3
        replace hO := hO.set ⟨w.heap.size + 1, 3, none⟩ (.slice A N C) (.inl (show w.heap.size + 1 < _ from by omega))
        replace M6 := M6.put ⟨w.heap.size + 1, 3, none⟩ (.slice A N C) (show w.heap.size ≤ w.heap.size + 1 from by omega)
        have zF : ((((w6.setCell ⟨w.heap.size + 1, 0, none⟩ (.int .i64 kd)).setCell ⟨w.heap.size + 1, 1, none⟩ (.int .i64 x0)).setCell ⟨w.heap.size + 1, 2, none⟩ (.int .i64 β)).setCell ⟨w.heap.size + 1, 3, none⟩ (.slice A N C)).heap.size = w6.heap.size := by simp only [World.size_set]
        generalize ((((w6.setCell ⟨w.heap.size + 1, 0, none⟩ (.int .i64 kd)).setCell ⟨w.heap.size + 1, 1, none⟩ (.int .i64 x0)).setCell ⟨w.heap.size + 1, 2, none⟩ (.int .i64 β)).setCell ⟨w.heap.size + 1, 3, none⟩ (.slice A N C)) = WF at *
        refine bodyPost_ret (v := .agg #[.int .i64 kd, .int .i64 x0, .int .i64 β, .slice A N C]) (by simp [results, Try.results17, go_sem, r0, r1, r2, r3]) rfl ?_
        rw [HR.out, HP.out, HBt.out]
        exact ⟨A, N, C, rfl, hc, hO.wide (by omega) (by omega), M6⟩
      · have HR := Lib.hid (show mpRow zs n kd (m : Int) = turnL (fun x => x) (zs.drop m) (n - m) by unfold mpRow; rw [HP.out, q3, turn_drop zs (Nat.le_of_lt hmn)]; rfl)
        obtain ⟨β2, hβ2⟩ : ∃ β, Hid (β = betaV x1 zs n (n : Int)) := ⟨_, Lib.hid rfl⟩
        have HBt := Lib.hid (show mpBeta x1 zs n kd (m : Int) = β2 by unfold mpBeta; rw [q3, if_pos rfl, hβ2.out])
        rw [q3] at he
        subst he
        clear q3
        have hNl : n - m = N := by have := hO.1; rw [List.length_drop, h.1] at this; exact this
        have KR := reverseHop A N C lo hi (zs.drop m) w6 hO (by omega)
        go_wp2_with fail
        refine KR.mono ?_
        rintro e w7 ⟨⟨v7, rfl⟩, hO7, m7⟩
        clear KR hO
        replace k0 := m7.cellAtR k0 (by omega)
        replace k1 := m7.cellAtR k1 (by omega)
        replace k2 := m7.cellAtR k2 (by omega)
        replace r0 := m7.cellAtR r0 (by omega)
        replace r1 := m7.cellAtR r1 (by omega)
        replace r2 := m7.cellAtR r2 (by omega)
        replace r3 := m7.cellAtR r3 (by omega)
        replace p0 := m7.cellAtR p0 (by omega)
        replace p1 := m7.cellAtR p1 (by omega)
        replace p2 := m7.cellAtR p2 (by omega)
        replace p3 := m7.cellAtR p3 (by omega)
        replace fR5 := fun q => (m7.frozen (b := w.heap.size + 1) (o := q) (by omega) (by omega)).trans (fR5 q)
        replace hfP := fun q => (m7.frozen (b := P) (o := q) (by omega) (by omega)).trans (hfP q)
        have hlow := M6.size
        have M7 := M6.andR m7 (.inl (by omega))
        have z7 := m7.size
        clear m7 M6
        have KB := implBetaAt x0 x1 (some ⟨b, off, none⟩) n c B zs (n : Int) w7 (h.mk M7 hB (.inr (Nat.le_refl _))) (Nat.le_trans hB M7.size) hn
        rw [← hβ2.out] at KB
        go_wp2_with fail
        refine KB.mono ?_
        rintro e w8 ⟨rfl, m8⟩
        replace k0 := m8.cellAt k0
        replace k1 := m8.cellAt k1
        replace k2 := m8.cellAt k2
        replace r0 := m8.cellAt r0
        replace r1 := m8.cellAt r1
        replace r2 := m8.cellAt r2
        replace r3 := m8.cellAt r3
        replace p0 := m8.cellAt p0
        replace p1 := m8.cellAt p1
        replace p2 := m8.cellAt p2
        replace p3 := m8.cellAt p3
        replace fR5 := fun q => (m8.frozen (b := w.heap.size + 1) (o := q) (by omega) (.inr (Nat.zero_le _))).trans (fR5 q)
        replace hfP := fun q => (m8.frozen (b := P) (o := q) (by omega) (.inr (Nat.zero_le _))).trans (hfP q)
        replace hO7 := hO7.mk m8 (by omega) (.inr (.inr (Nat.le_refl _)))
        have z8 := m8.size
        have M6 := M7.trans m8
        clear m8 M7 KB
        go_wp2_with fail
        replace k0 := cell_set k0 ⟨P, 2, none⟩ (.int .i64 β2) (.inl nk)
        replace k1 := cell_set k1 ⟨P, 2, none⟩ (.int .i64 β2) (.inl nk)
        replace k2 := cell_set k2 ⟨P, 2, none⟩ (.int .i64 β2) (.inl nk)
        replace r0 := cell_set r0 ⟨P, 2, none⟩ (.int .i64 β2) (.inl nr)
        replace r1 := cell_set r1 ⟨P, 2, none⟩ (.int .i64 β2) (.inl nr)
        replace r2 := cell_set r2 ⟨P, 2, none⟩ (.int .i64 β2) (.inl nr)
        replace r3 := cell_set r3 ⟨P, 2, none⟩ (.int .i64 β2) (.inl nr)
        replace p0 := cell_set p0 ⟨P, 2, none⟩ (.int .i64 β2) (.inr (by simp))
        replace p1 := cell_set p1 ⟨P, 2, none⟩ (.int .i64 β2) (.inr (by simp))
        replace p2 := World.cell?_setCell_same _ _ (.int .i64 β2) p2
        replace p3 := cell_set p3 ⟨P, 2, none⟩ (.int .i64 β2) (.inr (by simp))
        replace fR5 := fun q => frozen_set (fR5 q) ⟨P, 2, none⟩ (.int .i64 β2)
        replace hO7 := hO7.set ⟨P, 2, none⟩ (.int .i64 β2) hs
        replace M6 := M6.put ⟨P, 2, none⟩ (.int .i64 β2) (show w.heap.size ≤ P by omega)
        have zs9 : (w8.setCell ⟨P, 2, none⟩ (.int .i64 β2)).heap.size = w8.heap.size := by simp only [World.size_set]
        generalize (w8.setCell ⟨P, 2, none⟩ (.int .i64 β2)) = w6' at *
        have hO := hO7
        rw [hNl] at HR
        go_wp2_with fail
        replace r0 := World.cell?_setCell_same _ _ (.int .i64 kd) r0
        replace r1 := cell_set r1 ⟨w.heap.size + 1, 0, none⟩ (.int .i64 kd) (.inr (by simp))
        replace r2 := cell_set r2 ⟨w.heap.size + 1, 0, none⟩ (.int .i64 kd) (.inr (by simp))
        replace r3 := cell_set r3 ⟨w.heap.size + 1, 0, none⟩ (.int .i64 kd) (.inr (by simp))
        replace hO := hO.set ⟨w.heap.size + 1, 0, none⟩ (.int .i64 kd) (.inl (show w.heap.size + 1 < _ from by omega))
        replace M6 := M6.put ⟨w.heap.size + 1, 0, none⟩ (.int .i64 kd) (show w.heap.size ≤ w.heap.size + 1 from by omega)
        replace r0 := cell_set r0 ⟨w.heap.size + 1, 1, none⟩ (.int .i64 x0) (.inr (by simp))
        replace r1 := World.cell?_setCell_same _ _ (.int .i64 x0) r1
        replace r2 := cell_set r2 ⟨w.heap.size + 1, 1, none⟩ (.int .i64 x0) (.inr (by simp))
        replace r3 := cell_set r3 ⟨w.heap.size + 1, 1, none⟩ (.int .i64 x0) (.inr (by simp))
        replace hO := hO.set ⟨w.heap.size + 1, 1, none⟩ (.int .i64 x0) (.inl (show w.heap.size + 1 < _ from by omega))
        replace M6 := M6.put ⟨w.heap.size + 1, 1, none⟩ (.int .i64 x0) (show w.heap.size ≤ w.heap.size + 1 from by omega)
        replace r0 := cell_set r0 ⟨w.heap.size + 1, 2, none⟩ (.int .i64 β2) (.inr (by simp))
        replace r1 := cell_set r1 ⟨w.heap.size + 1, 2, none⟩ (.int .i64 β2) (.inr (by simp))
        replace r2 := World.cell?_setCell_same _ _ (.int .i64 β2) r2
        replace r3 := cell_set r3 ⟨w.heap.size + 1, 2, none⟩ (.int .i64 β2) (.inr (by simp))
        replace hO := hO.set ⟨w.heap.size + 1, 2, none⟩ (.int .i64 β2) (.inl (show w.heap.size + 1 < _ from by omega))
        replace M6 := M6.put ⟨w.heap.size + 1, 2, none⟩ (.int .i64 β2) (show w.heap.size ≤ w.heap.size + 1 from by omega)
        replace r0 := cell_set r0 ⟨w.heap.size + 1, 3, none⟩ (.slice A N C) (.inr (by simp))
        replace r1 := cell_set r1 ⟨w.heap.size + 1, 3, none⟩ (.slice A N C) (.inr (by simp))
        replace r2 := cell_set r2 ⟨w.heap.size + 1, 3, none⟩ (.slice A N C) (.inr (by simp))
        replace r3 := World.cell?_setCell_same _ _ (.slice A N C) r3
        replace hO := hO.set ⟨w.heap.size + 1, 3, none⟩ (.slice A N C) (.inl (show w.heap.size + 1 < _ from by omega))
        replace M6 := M6.put ⟨w.heap.size + 1, 3, none⟩ (.slice A N C) (show w.heap.size ≤ w.heap.size + 1 from by omega)
        have zF : ((((w6'.setCell ⟨w.heap.size + 1, 0, none⟩ (.int .i64 kd)).setCell ⟨w.heap.size + 1, 1, none⟩ (.int .i64 x0)).setCell ⟨w.heap.size + 1, 2, none⟩ (.int .i64 β2)).setCell ⟨w.heap.size + 1, 3, none⟩ (.slice A N C)).heap.size = w6'.heap.size := by simp only [World.size_set]
        generalize ((((w6'.setCell ⟨w.heap.size + 1, 0, none⟩ (.int .i64 kd)).setCell ⟨w.heap.size + 1, 1, none⟩ (.int .i64 x0)).setCell ⟨w.heap.size + 1, 2, none⟩ (.int .i64 β2)).setCell ⟨w.heap.size + 1, 3, none⟩ (.slice A N C)) = WF at *
        refine bodyPost_ret (v := .agg #[.int .i64 kd, .int .i64 x0, .int .i64 β2, .slice A N C]) (by simp [results, Try.results17, go_sem, r0, r1, r2, r3]) rfl ?_
        rw [HR.out, HP.out, HBt.out]
        exact ⟨A, N, C, rfl, hc, hO.wide (by omega) (by omega), M6⟩

end Go.Proofs.Ytbkbkpnpllemfaa
