
/- The ends of a segment, by both sides. -/
import Derived.Test.YtdhdkhnefnbdgaaGreatDoorCSegment
import Derived.Test.YtdhdkhnefnbdgaaGreatDoorRow
import Derived.Test.YtdhdkhnefnbdgaaGreatDoorDig
import Derived.Test.YtdhdkhnefnbdgaaGreatDoorRows
import Derived.Handy
import Derived.OwnWalk
import Derived.Deep.QuietTactic
import Derived.BigQuiet
import Derived.Test.YtdhdkhnefnbdgaaGreatDoorInR
import Derived.Deep.RegionHeld3
namespace Go.Proofs.YtdhdkhnefnbdgaaGreatDoor
open Go.ChangeShapes Go.WideShapes Go.ChangeAt Go.RowKit
set_option linter.unusedVariables false
def segFirst (zs : List THop) (n : Nat) : Int := if n = 0 then -1 else (zs.getD 0 default).nd
def segLast (zs : List THop) (n : Nat) : Int := if n = 0 then -1 else (zs.getD (n - 1) default).nd
def segEnds (zs : List THop) (n : Nat) : Bool := if n = 0 then false else decide ((zs.getD (n - 1) default).eg = 0)

set_option maxRecDepth 100000 in
set_option maxHeartbeats 1600000 in
theorem hopsLast (a : Option Addr) (m c B : Nat) (zs : List THop) (x : THop) (w : World) (h : HasHop w B a (m + 1) zs) (hB : B ≤ w.heap.size) (hn : m + 1 ≤ 1048576) (hx0 : x = zs.getD m default) :
    Calls Tryz.prog 34 #[.slice a (m + 1) c] w fun e w' => e = .returned (.agg #[.int .i64 x.nd, .int .i64 x.ing, .int .i64 x.eg, .int .i64 x.exp, .int .i64 x.mac]) ∧ Mk0 w w' := by
  have HX := Lib.hid hx0
  clear hx0
  obtain ⟨b, off, y, rfl, hb, hx, d0, d1, d2, d3, d4⟩ := HasHop.at _ _ _ _ _ _ h (Nat.lt_succ_self m)
  obtain rfl : y = x := hx.out.trans HX.out.symm
  have hbw := Nat.lt_of_lt_of_le hb hB
  go_enter Tryz.func34, Tryz.ntmps34
  go_wp2
  refine bodyPost_ret (v := .agg #[.int .i64 y.nd, .int .i64 y.ing, .int .i64 y.eg, .int .i64 y.exp, .int .i64 y.mac]) (by simp [results, Tryz.results34, go_sem]) rfl ⟨rfl, Mk.of_below ?_⟩
  go_grown

set_option maxRecDepth 100000 in
set_option maxHeartbeats 1600000 in
theorem chainOf (x0 x1 : Int) (a : Option Addr) (n c : Nat) (w : World) :
    Calls Tryz.prog 33 #[.agg #[.int .i64 x0, .int .i64 x1, .slice a n c]] w fun e w' => e = .returned (.agg #[.slice a n c, .int .i64 x1]) ∧ Mk0 w w' := by
  go_enter Tryz.func33, Tryz.ntmps33
  go_wp2
  refine bodyPost_ret (v := .agg #[.slice a n c, .int .i64 x1]) (by simp [results, Tryz.results33, go_sem]) rfl ⟨rfl, Mk.of_below ?_⟩
  go_grown

set_option maxRecDepth 100000 in
set_option maxHeartbeats 1600000 in
theorem specFirst (x0 x1 : Int) (a : Option Addr) (n c B : Nat) (zs : List THop) (w : World) (h : HasHop w B a n zs) (hB : B ≤ w.heap.size) (hn : n ≤ 1048576) :
    Calls Tryz.prog 74 #[.agg #[.int .i64 x0, .int .i64 x1, .slice a n c]] w fun e w' => e = .returned (.int .i64 (segFirst zs n)) ∧ Mk0 w w' := by
  by_cases hz : n = 0
  · subst hz
    go_enter Tryz.func74, Tryz.ntmps74
    go_wp2
    go_ret
    exact ⟨rfl, Mk.alloc _ _⟩
  · obtain ⟨b, off, x, rfl, hb, hx, d0, d1, d2, d3, d4⟩ := HasHop.at _ _ _ _ _ _ h (show 0 < n by omega)
    have hbw := Nat.lt_of_lt_of_le hb hB
    simp only [Nat.zero_mul, Nat.add_zero] at d0 d1 d2 d3 d4
    have HR : segFirst zs n = x.nd := by unfold segFirst; rw [if_neg hz, hx.out]
    have HQ := Lib.hid HR
    clear HR
    go_enter Tryz.func74, Tryz.ntmps74
    go_wp2
    go_ret
    exact ⟨retI HQ.out.symm, Mk.alloc _ _⟩

set_option maxRecDepth 100000 in
set_option maxHeartbeats 1600000 in
theorem implFirst (x0 x1 : Int) (a : Option Addr) (n c B : Nat) (zs : List THop) (w : World) (h : HasHop w B a n zs) (hB : B ≤ w.heap.size) (hn : n ≤ 1048576) :
    Calls Tryz.prog 84 #[.agg #[.int .i64 x0, .int .i64 x1, .slice a n c]] w fun e w' => e = .returned (.int .i64 (segFirst zs n)) ∧ Mk0 w w' := by
  by_cases hz : n = 0
  · subst hz
    go_enter Tryz.func84, Tryz.ntmps84
    go_wp2
    go_ret
    exact ⟨rfl, Mk.alloc _ _⟩
  · obtain ⟨b, off, x, rfl, hb, hx, d0, d1, d2, d3, d4⟩ := HasHop.at _ _ _ _ _ _ h (show 0 < n by omega)
    have hbw := Nat.lt_of_lt_of_le hb hB
    simp only [Nat.zero_mul, Nat.add_zero] at d0 d1 d2 d3 d4
    have HR : segFirst zs n = x.nd := by unfold segFirst; rw [if_neg hz, hx.out]
    have HQ := Lib.hid HR
    clear HR
    go_enter Tryz.func84, Tryz.ntmps84
    go_wp2
    go_ret
    exact ⟨retI HQ.out.symm, Mk.alloc _ _⟩

set_option maxRecDepth 100000 in
set_option maxHeartbeats 1600000 in
theorem specTermd (x0 x1 : Int) (a : Option Addr) (n c B : Nat) (zs : List THop) (w : World) (h : HasHop w B a n zs) (hB : B ≤ w.heap.size) (hn : n ≤ 1048576) :
    Calls Tryz.prog 23 #[.agg #[.int .i64 x0, .int .i64 x1, .slice a n c]] w fun e w' => e = .returned (.bool (segEnds zs n)) ∧ Mk0 w w' := by
  by_cases hz : n = 0
  · subst hz
    go_enter Tryz.func23, Tryz.ntmps23
    go_wp2_with fail
    go_ret
    exact ⟨rfl, Mk.alloc _ _⟩
  · obtain ⟨m, rfl⟩ : ∃ m, n = m + 1 := ⟨n - 1, by omega⟩
    obtain ⟨b, off, x, rfl, hb, hx, d0, d1, d2, d3, d4⟩ := HasHop.at _ _ _ _ _ _ h (Nat.lt_succ_self m)
    have hbw := Nat.lt_of_lt_of_le hb hB
    have HR : segEnds zs (m + 1) = decide (x.eg = 0) := by unfold segEnds; rw [if_neg (by omega), hx.out]; rfl
    have HQ := Lib.hid HR
    clear HR
    go_enter Tryz.func23, Tryz.ntmps23
    go_wp2_with fail
    go_ret
    exact ⟨retB (by rw [HQ.out]; rfl), Mk.alloc _ _⟩

set_option maxRecDepth 100000 in
set_option maxHeartbeats 1600000 in
theorem implTermd (x0 x1 : Int) (a : Option Addr) (n c B : Nat) (zs : List THop) (w : World) (h : HasHop w B a n zs) (hB : B ≤ w.heap.size) (hn : n ≤ 1048576) :
    Calls Tryz.prog 32 #[.agg #[.int .i64 x0, .int .i64 x1, .slice a n c]] w fun e w' => e = .returned (.bool (segEnds zs n)) ∧ Mk0 w w' := by
  by_cases hz : n = 0
  · subst hz
    go_enter Tryz.func32, Tryz.ntmps32
    go_wp2_with fail
    go_ret
    exact ⟨rfl, Mk.alloc _ _⟩
  · obtain ⟨m, rfl⟩ : ∃ m, n = m + 1 := ⟨n - 1, by omega⟩
    obtain ⟨x, hx⟩ : ∃ x, Hid (x = zs.getD m default) := ⟨_, rfl⟩
    have HR : segEnds zs (m + 1) = decide (x.eg = 0) := by unfold segEnds; rw [if_neg (by omega), hx.out]; rfl
    have HQ := Lib.hid HR
    clear HR
    have hf0 : ∀ w', (Instr.field 61 (Value.agg #[.int .i64 x.nd, .int .i64 x.ing, .int .i64 x.eg, .int .i64 x.exp, .int .i64 x.mac]) 2).run Tryz.prog w' = .ok (.int .i64 x.eg) w' := fun _ => by kernel_rfl
    have hfld : ∀ w', (Instr.field 69 (Value.agg #[Value.slice a (m + 1) c, Value.int .i64 x1]) 0).run Tryz.prog w' = .ok (.slice a (m + 1) c) w' := fun _ => by kernel_rfl
    go_enter Tryz.func32, Tryz.ntmps32
    go_wp2_with fail
    have M0 := Mk.alloc w (Obj.cells #[Value.int .i64 x0, Value.int .i64 x1, Value.slice a (m + 1) c] 39)
    refine (chainOf _ _ _ _ _ _).mono ?_
    rintro e w1 ⟨rfl, m1⟩
    have M1 := M0.trans m1
    go_wp2_with fail
    refine (hopsLast _ _ _ _ zs x _ (h.mk M1 hB (.inr (Nat.le_refl _))) (Nat.le_trans hB M1.size) hn hx.out).mono ?_
    rintro e w2 ⟨rfl, m2⟩
    have M2 := M1.trans m2
    go_wp2_with fail
    go_ret
    exact ⟨retB (by rw [HQ.out]; rfl), M2⟩

end Go.Proofs.YtdhdkhnefnbdgaaGreatDoor
namespace Go.Proofs.YtdhdkhnefnbdgaaGreatDoor
open Go.ChangeShapes Go.WideShapes Go.ChangeAt Go.RowKit
set_option linter.unusedVariables false
/-- One field of the first k hops. -/
def colN (f : THop → Int) (zs : List THop) : Nat → List Int
  | 0 => []
  | k + 1 => colN f zs k ++ [f (zs.getD k default)]
theorem colN_len (f : THop → Int) (zs : List THop) : ∀ k, (colN f zs k).length = k
  | 0 => rfl
  | k + 1 => by rw [colN, List.length_append, colN_len f zs k]; rfl
theorem colN_get (f : THop → Int) (zs : List THop) : ∀ k j, j < k → (colN f zs k).getD j 0 = f (zs.getD j default)
  | 0, j, h => absurd h (by omega)
  | k + 1, j, h => by
    have hl := colN_len f zs k
    rw [colN, List.getD_eq_getElem?_getD]
    by_cases hj : j < k
    · rw [List.getElem?_append_left (by omega), ← List.getD_eq_getElem?_getD]
      exact colN_get f zs k j hj
    · obtain rfl : j = k := by omega
      rw [List.getElem?_append_right (by omega), hl, Nat.sub_self]
      rfl

set_option maxRecDepth 100000 in
set_option maxHeartbeats 1600000 in
theorem specASes (x0 x1 : Int) (a : Option Addr) (n c B : Nat) (zs : List THop) (w : World) (h : HasHop w B a n zs) (hB : B ≤ w.heap.size) (hn : n ≤ 1048576) :
    Calls Tryz.prog 25 #[.agg #[.int .i64 x0, .int .i64 x1, .slice a n c]] w (OutR .i64 w (colN THop.nd zs n)) := by
  obtain ⟨i0, hi, hz0, hz1, hz2⟩ := info_parts infoI64
  have hby : i0.bytes ≤ 8 := by rw [hz2]; decide
  go_enter Tryz.func25, Tryz.ntmps25
  go_wp2_with fail
  have ho : ((w.alloc (Obj.cells #[Value.int .i64 x0, Value.int .i64 x1, Value.slice a n c] 39)).alloc (.cells #[] 3)).ownsRow (w.alloc (Obj.cells #[Value.int .i64 x0, Value.int .i64 x1, Value.slice a n c] 39)).heap.size 3 1 (.slice (some ⟨w.heap.size + 1, 0, none⟩) 0 0) 0 (([] : List Int).map (.int .i64)) := by
    have h1 := own_lit (w.alloc (Obj.cells #[Value.int .i64 x0, Value.int .i64 x1, Value.slice a n c] 39)) 3 [] (by simp)
    rw [World.size_alloc w] at h1 ⊢
    exact h1
  have hB0 : Below (w.alloc (Obj.cells #[Value.int .i64 x0, Value.int .i64 x1, Value.slice a n c] 39)).heap.size (w.alloc (Obj.cells #[Value.int .i64 x0, Value.int .i64 x1, Value.slice a n c] 39)) ((w.alloc (Obj.cells #[Value.int .i64 x0, Value.int .i64 x1, Value.slice a n c] 39)).alloc (.cells #[] 3)) := (Below.refl _ _).alloc (Nat.le_refl _) _
  go_loopw [3, 4] (fun v i wr => ∃ k : Nat, k ≤ n ∧ i = .int .i64 k ∧ wr.ownsRow (w.alloc (Obj.cells #[Value.int .i64 x0, Value.int .i64 x1, Value.slice a n c] 39)).heap.size 3 1 v k ((colN THop.nd zs k).map (.int .i64)) ∧ Below (w.alloc (Obj.cells #[Value.int .i64 x0, Value.int .i64 x1, Value.slice a n c] 39)).heap.size (w.alloc (Obj.cells #[Value.int .i64 x0, Value.int .i64 x1, Value.slice a n c] 39)) wr) (fun _ i _ => n - (intOf i).toNat)
  case atStart => exact ⟨0, Nat.zero_le _, rfl, ho, hB0⟩
  case round =>
    clear ho hB0
    obtain ⟨k, hk, rfl, ho, hB1⟩ := hrel
    have M1 := (Mk.alloc w (Obj.cells #[Value.int .i64 x0, Value.int .i64 x1, Value.slice a n c] 39)).trans (Mk.of_below hB1)
    have k2 : wr.cell? ⟨w.heap.size, 2, none⟩ = some (.slice a n c) := (Mk.of_below hB1).cellAt (by simp [go_sem])
    have hsz := hB1.size
    by_cases hlt : k < n
    · obtain ⟨b, off, x, rfl, hb, hx, d0, d1, d2, d3, d4⟩ := HasHop.at _ _ _ _ _ _ (h.mk M1 hB (.inr (Nat.le_refl _))) (show k < n by omega)
      have hbr := World.block_lt_of_cell? _ _ d0
      simp only at hbr
      have HE := Lib.hid (show colN THop.nd zs (k + 1) = colN THop.nd zs k ++ [x.nd] by rw [colN, hx.out])
      have hn1 := has_new .i64 wr 3 x.nd
      have ho' := ho.alloc (.cells #[.int .i64 x.nd] 3)
      have hb' := hB1.alloc hsz (.cells #[.int .i64 x.nd] 3)
      have hlo' : (w.alloc (Obj.cells #[Value.int .i64 x0, Value.int .i64 x1, Value.slice (some ⟨b, off, none⟩) n c] 39)).heap.size ≤ (wr.alloc (.cells #[.int .i64 x.nd] 3)).heap.size := by rw [World.size_alloc wr]; omega
      have hbnd : k + 1 ≤ 1073741824 := by omega
      go_wp2_with (at_builtin; refine wpList_app rfl (.tmp 13) (.tmp 20) 58 rfl _ 3 i0 Tryz.underlying58 hi hz0 hz1 hby _ (colN THop.nd zs k) k rfl ho' _ 1 1 [x.nd] rfl (fun h => by cases h) hn1 hbnd hlo' ?_; intro v2 w2 ho2 hg2 _)
      have hb2 := hb'.grown hg2 hlo' (fun g hg => (ho.lt g hg).1)
      go_roundw
      case rel => exact ⟨k + 1, by omega, by go_num, by rw [HE.out]; exact ho2, hb2⟩
      case measure => simp [intOf]; omega
    · obtain rfl : k = n := by omega
      go_wp2
      go_ret
      exact OutR.of (own_low ho (by rw [World.size_alloc]; omega)) M1.below0

set_option maxRecDepth 100000 in
set_option maxHeartbeats 1600000 in
theorem specSeals (x0 x1 : Int) (a : Option Addr) (n c B q : Nat) (zs : List THop) (w : World) (h : HasHop w B a n zs) (hB : B ≤ w.heap.size) (hn : n ≤ 1048576) (hq : q ≤ n) :
    Calls Tryz.prog 92 #[.agg #[.int .i64 x0, .int .i64 x1, .slice a n c], .int .i64 q] w (OutR .i64 w (colN THop.mac zs q)) := by
  obtain ⟨i0, hi, hz0, hz1, hz2⟩ := info_parts infoI64
  have hby : i0.bytes ≤ 8 := by rw [hz2]; decide
  go_enter Tryz.func92, Tryz.ntmps92
  go_wp2_with fail
  have ho : ((w.alloc (Obj.cells #[Value.int .i64 x0, Value.int .i64 x1, Value.slice a n c] 39)).alloc (.cells #[] 3)).ownsRow (w.alloc (Obj.cells #[Value.int .i64 x0, Value.int .i64 x1, Value.slice a n c] 39)).heap.size 3 1 (.slice (some ⟨w.heap.size + 1, 0, none⟩) 0 0) 0 (([] : List Int).map (.int .i64)) := by
    have h1 := own_lit (w.alloc (Obj.cells #[Value.int .i64 x0, Value.int .i64 x1, Value.slice a n c] 39)) 3 [] (by simp)
    rw [World.size_alloc w] at h1 ⊢
    exact h1
  have hB0 : Below (w.alloc (Obj.cells #[Value.int .i64 x0, Value.int .i64 x1, Value.slice a n c] 39)).heap.size (w.alloc (Obj.cells #[Value.int .i64 x0, Value.int .i64 x1, Value.slice a n c] 39)) ((w.alloc (Obj.cells #[Value.int .i64 x0, Value.int .i64 x1, Value.slice a n c] 39)).alloc (.cells #[] 3)) := (Below.refl _ _).alloc (Nat.le_refl _) _
  go_loopw [5, 6] (fun v i wr => ∃ k : Nat, k ≤ q ∧ i = .int .i64 k ∧ wr.ownsRow (w.alloc (Obj.cells #[Value.int .i64 x0, Value.int .i64 x1, Value.slice a n c] 39)).heap.size 3 1 v k ((colN THop.mac zs k).map (.int .i64)) ∧ Below (w.alloc (Obj.cells #[Value.int .i64 x0, Value.int .i64 x1, Value.slice a n c] 39)).heap.size (w.alloc (Obj.cells #[Value.int .i64 x0, Value.int .i64 x1, Value.slice a n c] 39)) wr) (fun _ i _ => q - (intOf i).toNat)
  case atStart => exact ⟨0, Nat.zero_le _, rfl, ho, hB0⟩
  case round =>
    clear ho hB0
    obtain ⟨k, hk, rfl, ho, hB1⟩ := hrel
    have M1 := (Mk.alloc w (Obj.cells #[Value.int .i64 x0, Value.int .i64 x1, Value.slice a n c] 39)).trans (Mk.of_below hB1)
    have k2 : wr.cell? ⟨w.heap.size, 2, none⟩ = some (.slice a n c) := (Mk.of_below hB1).cellAt (by simp [go_sem])
    have hsz := hB1.size
    by_cases hlt : k < q
    · obtain ⟨b, off, x, rfl, hb, hx, d0, d1, d2, d3, d4⟩ := HasHop.at _ _ _ _ _ _ (h.mk M1 hB (.inr (Nat.le_refl _))) (show k < n by omega)
      have hbr := World.block_lt_of_cell? _ _ d0
      simp only at hbr
      have HE := Lib.hid (show colN THop.mac zs (k + 1) = colN THop.mac zs k ++ [x.mac] by rw [colN, hx.out])
      have hn1 := has_new .i64 wr 3 x.mac
      have ho' := ho.alloc (.cells #[.int .i64 x.mac] 3)
      have hb' := hB1.alloc hsz (.cells #[.int .i64 x.mac] 3)
      have hlo' : (w.alloc (Obj.cells #[Value.int .i64 x0, Value.int .i64 x1, Value.slice (some ⟨b, off, none⟩) n c] 39)).heap.size ≤ (wr.alloc (.cells #[.int .i64 x.mac] 3)).heap.size := by rw [World.size_alloc wr]; omega
      have hbnd : k + 1 ≤ 1073741824 := by omega
      go_wp2_with (at_builtin; refine wpList_app rfl (.tmp 13) (.tmp 20) 58 rfl _ 3 i0 Tryz.underlying58 hi hz0 hz1 hby _ (colN THop.mac zs k) k rfl ho' _ 1 1 [x.mac] rfl (fun h => by cases h) hn1 hbnd hlo' ?_; intro v2 w2 ho2 hg2 _)
      have hb2 := hb'.grown hg2 hlo' (fun g hg => (ho.lt g hg).1)
      go_roundw
      case rel => exact ⟨k + 1, by omega, by go_num, by rw [HE.out]; exact ho2, hb2⟩
      case measure => simp [intOf]; omega
    · obtain rfl : k = q := by omega
      go_wp2
      go_ret
      exact OutR.of (own_low ho (by rw [World.size_alloc]; omega)) M1.below0

set_option maxRecDepth 100000 in
set_option maxHeartbeats 1600000 in
theorem implASes (a : Option Addr) (n c B : Nat) (zs : List THop) (w : World) (h : HasHop w B a n zs) (hB : B ≤ w.heap.size) (hn : n ≤ 1048576) :
    Calls Tryz.prog 65 #[.slice a n c] w fun e w' => e = .returned (.slice (some ⟨w.heap.size, 0, none⟩) n n) ∧ Own .i64 w' w.heap.size (some ⟨w.heap.size, 0, none⟩) n (colN THop.nd zs n) ∧ Below w.heap.size w w' := by
  obtain ⟨i0, hi, hz0, hz1, hz2⟩ := info_parts infoI64
  go_enter Tryz.func65, Tryz.ntmps65
  go_wp2_with (with_reducible refine wpList_make_full w rfl (.tmp 7) (.tmp 7) 58 rfl w.heap.size 3 i0 (.int .i64 0) 1 Tryz.underlying58 hi hz0 hz1 .i64 .i64 n n n rfl rfl rfl rfl (by rw [hz2]; omega) (by unfold maxLen; omega) (Nat.le_refl _) ?_; intro w1 hown hgr)
  have hF := ownsRow_fill hown (fun j => Value.int .i64 ((colN THop.nd zs n).getD j 0))
  have hB0 : Below w.heap.size w w1 := (Below.refl _ _).grown hgr (Nat.le_refl _) (fun k hk => by cases hk)
  clear hown hgr hz0 hz1 hz2 hi
  go_loopw [11] (fun i wr => ∃ k : Nat, k ≤ n ∧ i = .int .i64 k ∧ Fill wr w.heap.size 0 n k (fun j => Value.int .i64 ((colN THop.nd zs n).getD j 0)) ∧ Below w.heap.size w wr) (fun i _ => n - (intOf i).toNat)
  case atStart => exact ⟨0, Nat.zero_le _, rfl, hF, hB0⟩
  case round =>
    clear hF hB0
    obtain ⟨k, hk, rfl, hF, hB1⟩ := hrel
    by_cases hlt : k < n
    · obtain ⟨b, off, x, rfl, hb, hx, d0, d1, d2, d3, d4⟩ := HasHop.at _ _ _ _ _ _ (h.mk (Mk.of_below hB1) hB (.inr (Nat.le_refl _))) hlt
      have hbr := World.block_lt_of_cell? _ _ d0
      obtain ⟨v, hv, hfr⟩ := hF.at0 hlt
      have hbw := World.block_lt_of_cell? _ _ hv
      simp only at hbr hbw
      go_wp2
      go_roundw
      case rel => exact ⟨k + 1, by omega, by go_num, (hF.set0 hlt (by rw [colN_get _ _ _ _ hlt, ← hx.out])).block (Below.heap_alloc _ _ _ (by rw [World.size_set]; exact hbw)), (hB1.setCell (Nat.le_refl _) _).alloc (by rw [World.size_set]; exact hB1.size) _⟩
      case measure => simp [intOf]; omega
    · obtain rfl : k = n := by omega
      go_wp2
      go_ret
      exact ⟨rfl, hF.own (colN_len _ _ _) (fun _ _ => rfl) (Nat.le_refl _), hB1⟩
end Go.Proofs.YtdhdkhnefnbdgaaGreatDoor
namespace Go.Proofs.YtdhdkhnefnbdgaaGreatDoor
open Go.ChangeShapes Go.WideShapes Go.ChangeAt Go.RowKit
set_option linter.unusedVariables false

end Go.Proofs.YtdhdkhnefnbdgaaGreatDoor
namespace Go.Proofs.YtdhdkhnefnbdgaaGreatDoor
open Go.ChangeShapes Go.WideShapes Go.ChangeAt Go.RowKit
set_option linter.unusedVariables false
def chN (b : Int) (zs : List Int) : Nat → Int
  | 0 => b
  | k + 1 => addM (chN b zs k) (zs.getD k 0)
set_option maxRecDepth 100000 in
set_option maxHeartbeats 800000 in
theorem specChainAdd (x : Int) (a : Option Addr) (n c B : Nat) (zs : List Int) (w : World) (h : Has .i64 w B a n zs) (hn : n ≤ 2097152) :
    Calls Tryz.prog 91 #[.int .i64 x, .slice a n c] w fun e w' => e = .returned (.int .i64 (chN x zs n)) ∧ w = w' := by
  go_enter Tryz.func91, Tryz.ntmps91
  go_wp2
  go_loop [0, 5] (fun s i => ∃ k : Nat, k ≤ n ∧ i = .int .i64 k ∧ s = .int .i64 (chN x zs k)) (fun _ i => n - (intOf i).toNat)
  case atStart => exact ⟨0, Nat.zero_le _, rfl, rfl⟩
  case round =>
    obtain ⟨k, hk, rfl, rfl⟩ := hrel
    by_cases hlt : k < n
    · obtain ⟨b, off, z, rfl, hb, hz, hc⟩ := h.at_ hlt
      go_wp2_with fail
      refine (specAddMod _ _ _).mono ?_
      rintro e w1 ⟨rfl, rfl⟩
      go_wp2_with fail
      go_round
      case rel => exact ⟨k + 1, by omega, by go_num, by rw [hz.out]; rfl⟩
      case measure => simp [intOf]; omega
    · obtain rfl : k = n := by omega
      go_wp2
      go_ret
      exact ⟨rfl, rfl⟩

end Go.Proofs.YtdhdkhnefnbdgaaGreatDoor
namespace Go.Proofs.YtdhdkhnefnbdgaaGreatDoor
open Go.ChangeShapes Go.WideShapes Go.ChangeAt Go.RowKit
set_option linter.unusedVariables false
def betaV (x1 : Int) (zs : List THop) (n : Nat) (i : Int) : Int := if 0 ≤ i ∧ i ≤ n then chN x1 (colN THop.mac zs i.toNat) i.toNat else 0
theorem betaV_in {x1 : Int} {zs : List THop} {n q : Nat} (h : q ≤ n) : betaV x1 zs n (q : Int) = chN x1 (colN THop.mac zs q) q := by
  unfold betaV
  rw [if_pos ⟨by omega, by omega⟩, show ((q : Nat) : Int).toNat = q by omega]
theorem betaV_out {x1 : Int} {zs : List THop} {n : Nat} {i : Int} (h : i < 0 ∨ (n : Int) < i) : betaV x1 zs n i = 0 := if_neg (by omega)
theorem has_cut {f : THop → Int} {w : World} {g n q B : Nat} {zs : List THop} (h : Has .i64 w B (some ⟨g, 0, none⟩) n (colN f zs n)) (hq : q ≤ n) : Has .i64 w B (some ⟨g, 0, none⟩) q (colN f zs q) :=
  ⟨colN_len _ _ _, fun h0 => by
    obtain ⟨b, off, e, hb, hc⟩ := h.2 (by omega)
    refine ⟨b, off, e, hb, fun i hi => ?_⟩
    rw [hc i (by omega), colN_get _ _ _ _ (by omega), colN_get _ _ _ _ hi]⟩

set_option maxRecDepth 100000 in
set_option maxHeartbeats 1600000 in
theorem specBetaAt (x0 x1 : Int) (a : Option Addr) (n c B : Nat) (zs : List THop) (i : Int) (w : World) (h : HasHop w B a n zs) (hB : B ≤ w.heap.size) (hn : n ≤ 1048576) :
    Calls Tryz.prog 73 #[.agg #[.int .i64 x0, .int .i64 x1, .slice a n c], .int .i64 i] w fun e w' => e = .returned (.int .i64 (betaV x1 zs n i)) ∧ Mk0 w w' := by
  have M0 := Mk.alloc w (Obj.cells #[Value.int .i64 x0, Value.int .i64 x1, Value.slice a n c] 39)
  by_cases hi : i < 0 ∨ (n : Int) < i
  · have HR := Lib.hid (betaV_out (x1 := x1) (zs := zs) hi)
    have HI := Lib.hid hi
    clear hi
    go_enter Tryz.func73, Tryz.ntmps73
    go_wp2_with fail
    refine (specInNo _ _ _ _ HI.out).mono ?_
    rintro e w' ⟨rfl, rfl⟩
    go_wp2_with fail
    go_ret
    exact ⟨retI HR.out.symm, M0⟩
  · obtain ⟨q, rfl⟩ : ∃ q : Nat, i = (q : Int) := ⟨i.toNat, by omega⟩
    have hq : q ≤ n := by omega
    clear hi
    have HR := Lib.hid (betaV_in (x1 := x1) (zs := zs) hq)
    go_enter Tryz.func73, Tryz.ntmps73
    go_wp2_with fail
    refine (specInYes _ _ _ _ (by omega) (by omega)).mono ?_
    rintro e w' ⟨rfl, rfl⟩
    go_wp2_with fail
    have C0 : (w.alloc (Obj.cells #[Value.int .i64 x0, Value.int .i64 x1, Value.slice a n c] 39)).cell? ⟨w.heap.size, 0, none⟩ = some (.int .i64 x0) := by simp [go_sem]
    have C1 : (w.alloc (Obj.cells #[Value.int .i64 x0, Value.int .i64 x1, Value.slice a n c] 39)).cell? ⟨w.heap.size, 1, none⟩ = some (.int .i64 x1) := by simp [go_sem]
    have C2 : (w.alloc (Obj.cells #[Value.int .i64 x0, Value.int .i64 x1, Value.slice a n c] 39)).cell? ⟨w.heap.size, 2, none⟩ = some (.slice a n c) := by simp [go_sem]
    have hh : ∀ w', Mk0 (w.alloc (Obj.cells #[Value.int .i64 x0, Value.int .i64 x1, Value.slice a n c] 39)) w' → HasHop w' B a n zs := fun w' m => h.mk (M0.trans m) hB (.inr (Nat.le_refl _))
    have hs : ∀ w', Mk0 (w.alloc (Obj.cells #[Value.int .i64 x0, Value.int .i64 x1, Value.slice a n c] 39)) w' → B ≤ w'.heap.size := fun w' m => Nat.le_trans hB (M0.trans m).size
    have hq2 : q ≤ 2097152 := by omega
    go_region_held3 (fun w' => Mk0 (w.alloc (Obj.cells #[Value.int .i64 x0, Value.int .i64 x1, Value.slice a n c] 39)) w' ∧ w'.cell? ⟨w.heap.size, 0, none⟩ = some (.int .i64 x0) ∧ w'.cell? ⟨w.heap.size, 1, none⟩ = some (.int .i64 x1) ∧ w'.cell? ⟨w.heap.size, 2, none⟩ = some (.slice a n c)) (first | exact ⟨Mk.drew1 _, C0, C1, C2⟩ | assumption | (obtain ⟨s0, s1, s2, s3⟩ := ‹Mk0 (w.alloc (Obj.cells #[Value.int .i64 x0, Value.int .i64 x1, Value.slice a n c] 39)) _ ∧ _›; exact ⟨s0.trans mm, mm.cellAt s1, mm.cellAt s2, mm.cellAt s3⟩)) (first | (go_at_call 92; refine (specSeals _ _ _ _ _ B q zs _ (hh _ (‹Mk0 (w.alloc (Obj.cells #[Value.int .i64 x0, Value.int .i64 x1, Value.slice a n c] 39)) _ ∧ _›).1) (hs _ (‹Mk0 (w.alloc (Obj.cells #[Value.int .i64 x0, Value.int .i64 x1, Value.slice a n c] 39)) _ ∧ _›).1) hn hq).mono ?_; rintro e w2 ⟨A, N, cc, rfl, hcc, ho, hb⟩; obtain rfl : q = N := (colN_len _ _ _).symm.trans ho.1; have mm := Mk.of_below hb) | (go_at_call 91; refine (specChainAdd _ _ _ _ _ (colN THop.mac zs q) _ ho.has hq2).mono ?_; rintro e w3 ⟨rfl, rfl⟩))
    have m6 := (‹Mk0 (w.alloc (Obj.cells #[Value.int .i64 x0, Value.int .i64 x1, Value.slice a n c] 39)) _ ∧ _›).1
    refine ‹∀ (a : Act) (w : World), _ → _› _ _ ?_
    go_wp2_with fail
    go_ret
    exact ⟨retI HR.out.symm, M0.trans m6⟩

set_option maxRecDepth 100000 in
set_option maxHeartbeats 1600000 in
theorem implSegASes (x0 x1 : Int) (a : Option Addr) (n c B : Nat) (zs : List THop) (w : World) (h : HasHop w B a n zs) (hB : B ≤ w.heap.size) (hn : n ≤ 1048576) :
    Calls Tryz.prog 37 #[.agg #[.int .i64 x0, .int .i64 x1, .slice a n c]] w (OutR .i64 w (colN THop.nd zs n)) := by
  have hfld : ∀ w', (Instr.field 69 (Value.agg #[Value.slice a n c, Value.int .i64 x1]) 0).run Tryz.prog w' = .ok (.slice a n c) w' := fun _ => by kernel_rfl
  have M0 := Mk.alloc w (Obj.cells #[Value.int .i64 x0, Value.int .i64 x1, Value.slice a n c] 39)
  go_enter Tryz.func37, Tryz.ntmps37
  go_wp2_with fail
  refine (chainOf _ _ _ _ _ _).mono ?_
  rintro e w1 ⟨rfl, m1⟩
  have M1 := M0.trans m1
  go_wp2_with fail
  refine (implASes _ _ _ B zs _ (h.mk M1 hB (.inr (Nat.le_refl _))) (Nat.le_trans hB M1.size) hn).mono ?_
  rintro e w2 ⟨rfl, ho, hb⟩
  go_wp2_with fail
  go_ret
  exact ⟨_, _, _, rfl, (fun h => by cases h), ho.low M1.size, (M1.trans (Mk.of_below hb)).below0⟩
end Go.Proofs.YtdhdkhnefnbdgaaGreatDoor
