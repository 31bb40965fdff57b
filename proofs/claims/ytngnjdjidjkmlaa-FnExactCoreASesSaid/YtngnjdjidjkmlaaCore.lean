
/- CoreASes of both sides. -/
import Derived.Test.YtngnjdjidjkmlaaCTopology
import Derived.Test.YtngnjdjidjkmlaaApp
import Derived.Test.YtngnjdjidjkmlaaInfo
namespace Go.Proofs.Ytngnjdjidjkmlaa
open Go.ChangeShapes Go.WideShapes Go.ChangeAt Go.RowKit
set_option linter.unusedVariables false
def coreN (zs : List TAS) (d : Int) : Nat → List Int
  | 0 => []
  | k + 1 => if ((zs.getD k default).core && ((zs.getD k default).isd == d)) = true then coreN zs d k ++ [(k : Int)] else coreN zs d k
theorem coreN_len (zs : List TAS) (d : Int) : ∀ k, (coreN zs d k).length ≤ k
  | 0 => Nat.le_refl _
  | k + 1 => by
    have := coreN_len zs d k
    rw [coreN]
    split
    · simp; omega
    · omega

set_option maxRecDepth 100000 in
set_option maxHeartbeats 1600000 in
theorem specCore (a : Option Addr) (n c : Nat) (a' : Option Addr) (n' c' B : Nat) (zs : List TAS) (d : Int) (w : World) (h : HasAS w B a n zs) (hB : B ≤ w.heap.size) (hn : n ≤ 1048576) :
    Calls Try.prog 33 #[.agg #[.slice a n c, .slice a' n' c'], .int .i64 d] w (OutR .i64 w (coreN zs d n)) := by
  obtain ⟨i0, hi, hz0, hz1, hz2⟩ := info_parts infoI64
  have hby : i0.bytes ≤ 8 := by rw [hz2]; decide
  go_enter Try.func33, Try.ntmps33
  go_wp2_with fail
  have ho : ((w.alloc (Obj.cells #[Value.slice a n c, Value.slice a' n' c'] 27)).alloc (.cells #[] 3)).ownsRow (w.alloc (Obj.cells #[Value.slice a n c, Value.slice a' n' c'] 27)).heap.size 3 1 (.slice (some ⟨w.heap.size + 1, 0, none⟩) 0 0) 0 (([] : List Int).map (.int .i64)) := by
    have h1 := own_lit (w.alloc (Obj.cells #[Value.slice a n c, Value.slice a' n' c'] 27)) 3 [] (by simp)
    rw [World.size_alloc w] at h1 ⊢
    exact h1
  have hB0 : Below (w.alloc (Obj.cells #[Value.slice a n c, Value.slice a' n' c'] 27)).heap.size (w.alloc (Obj.cells #[Value.slice a n c, Value.slice a' n' c'] 27)) ((w.alloc (Obj.cells #[Value.slice a n c, Value.slice a' n' c'] 27)).alloc (.cells #[] 3)) := (Below.refl _ _).alloc (Nat.le_refl _) _
  go_loopw [5, 6] (fun v i wr => ∃ k L : Nat, k ≤ n ∧ L ≤ k ∧ i = .int .i64 k ∧ wr.ownsRow (w.alloc (Obj.cells #[Value.slice a n c, Value.slice a' n' c'] 27)).heap.size 3 1 v L ((coreN zs d k).map (.int .i64)) ∧ Below (w.alloc (Obj.cells #[Value.slice a n c, Value.slice a' n' c'] 27)).heap.size (w.alloc (Obj.cells #[Value.slice a n c, Value.slice a' n' c'] 27)) wr) (fun _ i _ => n - (intOf i).toNat)
  case atStart => exact ⟨0, 0, Nat.zero_le _, Nat.le_refl _, rfl, ho, hB0⟩
  case round =>
    clear ho hB0
    obtain ⟨k, L, hk, hL, rfl, ho, hB1⟩ := hrel
    have M1 := (Mk.alloc w (Obj.cells #[Value.slice a n c, Value.slice a' n' c'] 27)).trans (Mk.of_below hB1)
    have k2 : wr.cell? ⟨w.heap.size, 0, none⟩ = some (.slice a n c) := (Mk.of_below hB1).cellAt (by simp [go_sem])
    have hsz := hB1.size
    by_cases hlt : k < n
    · obtain ⟨b, off, x, rfl, hb, hx, d0, d1, d2⟩ := HasAS.at _ _ _ _ _ _ (h.mk M1 hB (.inr (Nat.le_refl _))) hlt
      have hbr := World.block_lt_of_cell? _ _ d0
      simp only at hbr
      cases e1 : x.core
      · have HE := Lib.hid (show coreN zs d (k + 1) = coreN zs d k by rw [coreN, ← hx.out, e1]; simp)
        go_wp2_with fail
        go_roundw
        case rel => exact ⟨k + 1, L, by omega, by omega, by go_num, by rw [HE.out]; exact ho, hB1⟩
        case measure => simp [intOf]; omega
      · cases e2 : (x.isd == d)
        · have HE := Lib.hid (show coreN zs d (k + 1) = coreN zs d k by rw [coreN, ← hx.out, e1, e2]; simp)
          go_wp2_with fail
          go_roundw
          case rel => exact ⟨k + 1, L, by omega, by omega, by go_num, by rw [HE.out]; exact ho, hB1⟩
          case measure => simp [intOf]; omega
        · have HE := Lib.hid (show coreN zs d (k + 1) = coreN zs d k ++ [(k : Int)] by rw [coreN, ← hx.out, e1, e2]; simp)
          have hn1 := has_new .i64 wr 3 (k : Int)
          have ho' := (ho).alloc (.cells #[.int .i64 (k : Int)] 3)
          have hb' := hB1.alloc (by first | exact hsz | (rw [World.size_alloc wr]; omega)) (.cells #[.int .i64 (k : Int)] 3)
          have hlo' : (w.alloc (Obj.cells #[Value.slice (some ⟨b, off, none⟩) n c, Value.slice a' n' c'] 27)).heap.size ≤ (wr.alloc (.cells #[.int .i64 (k : Int)] 3)).heap.size := by simp only [World.size_alloc] at hsz ⊢; omega
          have hbnd : L + 1 ≤ 1073741824 := by omega
          go_wp2_with (at_builtin; refine wpList_app rfl (.tmp 31) (.tmp 33) 40 rfl _ 3 i0 Try.underlying40 hi hz0 hz1 hby _ (coreN zs d k) L rfl ho' _ 1 1 [(k : Int)] rfl (fun h => by cases h) hn1 hbnd hlo' ?_; intro v2 w2 ho2 hg2 _)
          have hb2 := hb'.grown hg2 hlo' (fun g hg => (ho.lt g hg).1)
          go_roundw
          case rel => exact ⟨k + 1, L + 1, by omega, by omega, by go_num, by rw [HE.out]; exact ho2, hb2⟩
          case measure => simp [intOf]; omega
    · obtain rfl : k = n := by omega
      go_wp2
      go_ret
      exact OutR.of (own_low ho (by rw [World.size_alloc]; omega)) M1.below0

set_option maxRecDepth 100000 in
set_option maxHeartbeats 1600000 in
theorem implCore (a : Option Addr) (n c : Nat) (a' : Option Addr) (n' c' B : Nat) (zs : List TAS) (d : Int) (w : World) (h : HasAS w B a n zs) (hB : B ≤ w.heap.size) (hn : n ≤ 1048576) :
    Calls Try.prog 32 #[.agg #[.slice a n c, .slice a' n' c'], .int .i64 d] w (OutR .i64 w (coreN zs d n)) := by
  obtain ⟨i0, hi, hz0, hz1, hz2⟩ := info_parts infoI64
  have hby : i0.bytes ≤ 8 := by rw [hz2]; decide
  go_enter Try.func32, Try.ntmps32
  go_wp2_with fail
  have ho : ((w.alloc (Obj.cells #[Value.slice a n c, Value.slice a' n' c'] 27)).alloc (.cells #[] 3)).ownsRow (w.alloc (Obj.cells #[Value.slice a n c, Value.slice a' n' c'] 27)).heap.size 3 1 (.slice (some ⟨w.heap.size + 1, 0, none⟩) 0 0) 0 (([] : List Int).map (.int .i64)) := by
    have h1 := own_lit (w.alloc (Obj.cells #[Value.slice a n c, Value.slice a' n' c'] 27)) 3 [] (by simp)
    rw [World.size_alloc w] at h1 ⊢
    exact h1
  have hB0 : Below (w.alloc (Obj.cells #[Value.slice a n c, Value.slice a' n' c'] 27)).heap.size (w.alloc (Obj.cells #[Value.slice a n c, Value.slice a' n' c'] 27)) ((w.alloc (Obj.cells #[Value.slice a n c, Value.slice a' n' c'] 27)).alloc (.cells #[] 3)) := (Below.refl _ _).alloc (Nat.le_refl _) _
  go_loopw [5, 12] (fun v i wr => ∃ k L : Nat, k ≤ n ∧ L ≤ k ∧ i = .int .i64 k ∧ wr.ownsRow (w.alloc (Obj.cells #[Value.slice a n c, Value.slice a' n' c'] 27)).heap.size 3 1 v L ((coreN zs d k).map (.int .i64)) ∧ Below (w.alloc (Obj.cells #[Value.slice a n c, Value.slice a' n' c'] 27)).heap.size (w.alloc (Obj.cells #[Value.slice a n c, Value.slice a' n' c'] 27)) wr) (fun _ i _ => n - (intOf i).toNat)
  case atStart => exact ⟨0, 0, Nat.zero_le _, Nat.le_refl _, rfl, ho, hB0⟩
  case round =>
    clear ho hB0
    obtain ⟨k, L, hk, hL, rfl, ho, hB1⟩ := hrel
    have M1 := (Mk.alloc w (Obj.cells #[Value.slice a n c, Value.slice a' n' c'] 27)).trans (Mk.of_below hB1)
    have k2 : wr.cell? ⟨w.heap.size, 0, none⟩ = some (.slice a n c) := (Mk.of_below hB1).cellAt (by simp [go_sem])
    have hsz := hB1.size
    by_cases hlt : k < n
    · obtain ⟨b, off, x, rfl, hb, hx, d0, d1, d2⟩ := HasAS.at _ _ _ _ _ _ (h.mk M1 hB (.inr (Nat.le_refl _))) hlt
      have hbr := World.block_lt_of_cell? _ _ d0
      simp only at hbr
      cases e1 : x.core
      · have HE := Lib.hid (show coreN zs d (k + 1) = coreN zs d k by rw [coreN, ← hx.out, e1]; simp)
        go_wp2_with fail
        go_roundw
        case rel => exact ⟨k + 1, L, by omega, by omega, by go_num, by rw [HE.out]; exact ho.alloc (Obj.cells #[Value.int .i64 x.isd, Value.bool false, Value.int .i64 x.key] 65), (hB1.alloc hsz (Obj.cells #[Value.int .i64 x.isd, Value.bool false, Value.int .i64 x.key] 65))⟩
        case measure => simp [intOf]; omega
      · cases e2 : (x.isd == d)
        · have HE := Lib.hid (show coreN zs d (k + 1) = coreN zs d k by rw [coreN, ← hx.out, e1, e2]; simp)
          go_wp2_with fail
          go_roundw
          case rel => exact ⟨k + 1, L, by omega, by omega, by go_num, by rw [HE.out]; exact ho.alloc (Obj.cells #[Value.int .i64 x.isd, Value.bool true, Value.int .i64 x.key] 65), (hB1.alloc hsz (Obj.cells #[Value.int .i64 x.isd, Value.bool true, Value.int .i64 x.key] 65))⟩
          case measure => simp [intOf]; omega
        · have HE := Lib.hid (show coreN zs d (k + 1) = coreN zs d k ++ [(k : Int)] by rw [coreN, ← hx.out, e1, e2]; simp)
          have hn1 := has_new .i64 (wr.alloc (Obj.cells #[Value.int .i64 x.isd, Value.bool true, Value.int .i64 x.key] 65)) 3 (k : Int)
          rw [World.size_alloc wr] at hn1
          have ho' := (ho.alloc (Obj.cells #[Value.int .i64 x.isd, Value.bool true, Value.int .i64 x.key] 65)).alloc (.cells #[.int .i64 (k : Int)] 3)
          have hb' := (hB1.alloc hsz (Obj.cells #[Value.int .i64 x.isd, Value.bool true, Value.int .i64 x.key] 65)).alloc (by first | exact hsz | (rw [World.size_alloc wr]; omega)) (.cells #[.int .i64 (k : Int)] 3)
          have hlo' : (w.alloc (Obj.cells #[Value.slice (some ⟨b, off, none⟩) n c, Value.slice a' n' c'] 27)).heap.size ≤ ((wr.alloc (Obj.cells #[Value.int .i64 x.isd, Value.bool true, Value.int .i64 x.key] 65)).alloc (.cells #[.int .i64 (k : Int)] 3)).heap.size := by simp only [World.size_alloc] at hsz ⊢; omega
          have hbnd : L + 1 ≤ 1073741824 := by omega
          go_wp2_with (at_builtin; refine wpList_app rfl (.tmp 25) (.tmp 27) 40 rfl _ 3 i0 Try.underlying40 hi hz0 hz1 hby _ (coreN zs d k) L rfl ho' _ 1 1 [(k : Int)] rfl (fun h => by cases h) hn1 hbnd hlo' ?_; intro v2 w2 ho2 hg2 _)
          have hb2 := hb'.grown hg2 hlo' (fun g hg => (ho.lt g hg).1)
          go_roundw
          case rel => exact ⟨k + 1, L + 1, by omega, by omega, by go_num, by rw [HE.out]; exact ho2, hb2⟩
          case measure => simp [intOf]; omega
    · obtain rfl : k = n := by omega
      go_wp2
      go_ret
      exact OutR.of (own_low ho (by rw [World.size_alloc]; omega)) M1.below0

end Go.Proofs.Ytngnjdjidjkmlaa
