/- ReadBytes, by the program and by the model. -/
import Derived.Test.YtjjbhccbbngdnaaRead
import Derived.Test.YtjjbhccbbngdnaaBytesOps
namespace Go.Proofs.Ytjjbhccbbngdnaa
open Go.ChangeShapes Go.WideShapes Go.ChangeAt Go.RowKit
set_option linter.unusedVariables false
/-- The bytes that are read, and the offset behind them. -/
def rbAt (zs : List Int) (x most : Int) : Option (List Int × Nat) :=
  match rdAt zs x with
  | none => none
  | some (n, s) => if most < (n : Int) ∨ (zs.length : Int) - s < n then none else some ((zs.drop s).take n, s + n)
/-- A new row, a number and a yes or no. -/
def Out3 (k : IntKind) (w : World) (R : List Int) (x : Int) (y : Bool) (e : Ending) (w' : World) : Prop :=
  ∃ A N c, e = .returned (.tuple #[.slice A N c, .int .i64 x, .bool y]) ∧ (A = none → c = 0) ∧ Own k w' w.heap.size A N R ∧ Below w.heap.size w w'
theorem Out3.of {k : IntKind} {w w' : World} {R : List Int} {x : Int} {y : Bool} {v : Value} {n : Nat} {e : TypeId} (h : w'.ownsRow w.heap.size e 1 v n (R.map (.int k))) (hb : Below w.heap.size w w') : Out3 k w R x y (.returned (.tuple #[v, .int .i64 x, .bool y])) w' := by
  obtain ⟨A, c, rfl, hc⟩ := ownsRow_slice h
  exact ⟨A, n, c, rfl, hc, ownsRow_own h, hb⟩
theorem has_cut {k : IntKind} {w : World} {B b off n s m : Nat} {zs : List Int} (h : Has k w B (some ⟨b, off, none⟩) n zs) (hs : s + m ≤ n) : Has k w B (some ⟨b, off + s, none⟩) m ((zs.drop s).take m) := by
  have hl := h.1
  refine ⟨by simp; omega, fun hm => ?_⟩
  obtain ⟨b', off', he, hb, hc⟩ := h.2 (by omega)
  simp only [Option.some.injEq, Addr.mk.injEq, and_true] at he
  obtain ⟨rfl, rfl⟩ := he
  refine ⟨b, off + s, rfl, hb, fun i hi => ?_⟩
  rw [Nat.add_assoc, hc (s + i) (by omega)]
  simp [List.getD_eq_getElem?_getD, hi, List.getElem?_drop]
theorem has_zero (k : IntKind) (w : World) (B : Nat) (a : Option Addr) : Has k w B a 0 [] := ⟨rfl, fun h => absurd h (by omega)⟩
theorem rb_none {zs : List Int} {x most : Int} (h : rdAt zs x = none) : rbAt zs x most = none := by unfold rbAt; rw [h]
theorem rb_no {zs : List Int} {x most : Int} {n s : Nat} (h : rdAt zs x = some (n, s)) (h' : most < (n : Int) ∨ (zs.length : Int) - s < n) : rbAt zs x most = none := by unfold rbAt; rw [h]; simp only [if_pos h']
theorem rb_yes {zs : List Int} {x most : Int} {n s : Nat} (h : rdAt zs x = some (n, s)) (h' : ¬ (most < (n : Int) ∨ (zs.length : Int) - s < n)) : rbAt zs x most = some ((zs.drop s).take n, s + n) := by unfold rbAt; rw [h]; simp only [if_neg h']

def rbR : Option (List Int × Nat) → List Int
  | some (l, _) => l
  | none => []
def rbX : Option (List Int × Nat) → Int
  | some (_, m) => (m : Int)
  | none => 0
def rbY : Option (List Int × Nat) → Bool
  | some _ => true
  | none => false

theorem rbR_len (zs : List Int) (x most : Int) : (rbR (rbAt zs x most)).length ≤ zs.length := by
  unfold rbAt
  split
  · simp [rbR]
  · split
    · simp [rbR]
    · simp [rbR]; omega

set_option maxRecDepth 100000 in
set_option maxHeartbeats 1600000 in
theorem implReadB (b off n c : Nat) (x most : Int) (zs : List Int) (w : World) (h : Has .u8 w w.heap.size (some ⟨b, off, none⟩) n zs) (hf : ∀ z ∈ zs, (Lit.int .u8 z).wf = true) (hn : n ≤ 134217728) (hc : n ≤ c) (hx : (Lit.int .i64 x).wf = true) :
    Calls Try.prog 21 #[.slice (some ⟨b, off, none⟩) n c, .int .i64 x, .int .i64 most] w (Out3 .u8 w (rbR (rbAt zs x most)) (rbX (rbAt zs x most)) (rbY (rbAt zs x most))) := by
  have hl := h.1
  rcases hr : rdAt zs x with _ | ⟨rn, rs⟩
  · rw [rb_none hr]
    have HR := Lib.hid hr
    clear hr hl
    go_enter Try.func21, Try.ntmps21
    go_wp2_with fail
    refine (implReadNone _ _ _ _ _ _ h hf (by omega) hc hx HR.out).mono ?_
    rintro e w1 ⟨rfl, hb1⟩
    go_wp2_with fail
    go_ret3
    exact Out3.of (own_low (own_empty w1 5) hb1.size) (hb1.alloc hb1.size _)
  · obtain ⟨r1, r2, r3, r4⟩ := rdAt_bd hr
    have HR := Lib.hid hr
    by_cases hbad : most < (rn : Int) ∨ (zs.length : Int) - rs < rn
    · rw [rb_no hr hbad]
      rw [hl] at hbad r4
      clear hr
      have HL := Lib.hid hl
      clear hl
      by_cases hm : most < (rn : Int)
      · clear hbad
        go_enter Try.func21, Try.ntmps21
        go_wp2_with fail
        refine (implReadSome _ _ _ _ _ _ h hf (by omega) hc hx HR.out).mono ?_
        rintro e w1 ⟨rfl, hb1⟩
        go_wp2_with fail
        go_ret3
        exact Out3.of (own_low (own_empty w1 5) hb1.size) (hb1.alloc hb1.size _)
      · have hm' : (rn : Int) ≤ most := by omega
        have hd : decide ((n : Int) - (rs : Int) < (rn : Int)) = true := by simp; omega
        clear hbad
        go_enter Try.func21, Try.ntmps21
        go_wp2_with fail
        refine (implReadSome _ _ _ _ _ _ h hf (by omega) hc hx HR.out).mono ?_
        rintro e w1 ⟨rfl, hb1⟩
        go_wp2_with fail
        go_ret3
        exact Out3.of (own_low (own_empty w1 5) hb1.size) (hb1.alloc hb1.size _)
    · rw [rb_yes hr hbad]
      rw [hl] at hbad r4
      clear hr
      have HL := Lib.hid hl
      clear hl
      have hm' : (rn : Int) ≤ most := by omega
      have hd : decide ((n : Int) - (rs : Int) < (rn : Int)) = false := by simp; omega
      have hsn : rs + rn ≤ n := by omega
      clear hbad
      have hcut := has_cut h hsn
      by_cases hz : rn = 0
      · subst hz
        go_enter Try.func21, Try.ntmps21
        go_wp2_with fail
        refine (implReadSome _ _ _ _ _ _ h hf (by omega) hc hx HR.out).mono ?_
        rintro e w1 ⟨rfl, hb1⟩
        go_wp2_with fail
        refine (cloneAny _ _ _ _ _ (has_zero .u8 _ _ _) (fun h => by cases h) (by omega)).mono ?_
        rintro e w2 ⟨v, rfl, ho, hb2⟩
        go_wp2_with fail
        go_ret3
        exact Out3.of (own_low (by simpa [rbR] using ho) hb1.size) (Below.seq hb1 hb2)
      · have hz' : 0 < rn := by omega
        go_enter Try.func21, Try.ntmps21
        go_wp2_with fail
        refine (implReadSome _ _ _ _ _ _ h hf (by omega) hc hx HR.out).mono ?_
        rintro e w1 ⟨rfl, hb1⟩
        go_wp2_with fail
        refine (cloneAny _ _ _ _ _ (hcut.next hb1) (fun h => by cases h) (by omega)).mono ?_
        rintro e w2 ⟨v, rfl, ho, hb2⟩
        go_wp2_with fail
        go_ret3
        exact Out3.of (own_low ho hb1.size) (Below.seq hb1 hb2)

set_option maxRecDepth 100000 in
set_option maxHeartbeats 1600000 in
theorem specReadB (b off n c : Nat) (x most : Int) (zs : List Int) (w : World) (h : Has .u8 w w.heap.size (some ⟨b, off, none⟩) n zs) (hf : ∀ z ∈ zs, (Lit.int .u8 z).wf = true) (hn : n ≤ 134217728) (hc : n ≤ c) (hx : (Lit.int .i64 x).wf = true) :
    Calls Try.prog 22 #[.slice (some ⟨b, off, none⟩) n c, .int .i64 x, .int .i64 most] w (Out3 .u8 w (rbR (rbAt zs x most)) (rbX (rbAt zs x most)) (rbY (rbAt zs x most))) := by
  have hl := h.1
  rcases hr : rdAt zs x with _ | ⟨rn, rs⟩
  · rw [rb_none hr]
    have HR := Lib.hid hr
    clear hr hl
    go_enter Try.func22, Try.ntmps22
    go_wp2_with fail
    refine (specReadNone _ _ _ _ _ _ _ h hf (by omega) hx HR.out).mono ?_
    rintro e w' ⟨rfl, rfl⟩
    go_wp2_with fail
    go_ret3
    exact Out3.of (own_empty w 5) ((Below.refl _ _).alloc (Nat.le_refl _) _)
  · obtain ⟨r1, r2, r3, r4⟩ := rdAt_bd hr
    have HR := Lib.hid hr
    by_cases hbad : most < (rn : Int) ∨ (zs.length : Int) - rs < rn
    · rw [rb_no hr hbad]
      rw [hl] at hbad r4
      clear hr
      have HL := Lib.hid hl
      clear hl
      by_cases hm : most < (rn : Int)
      · clear hbad
        go_enter Try.func22, Try.ntmps22
        go_wp2_with fail
        refine (specReadSome _ _ _ _ _ _ _ h hf (by omega) hx HR.out).mono ?_
        rintro e w' ⟨rfl, rfl⟩
        go_wp2_with fail
        go_ret3
        exact Out3.of (own_empty w 5) ((Below.refl _ _).alloc (Nat.le_refl _) _)
      · have hm' : (rn : Int) ≤ most := by omega
        have hd : decide ((n : Int) - (rs : Int) < (rn : Int)) = true := by simp; omega
        clear hbad
        go_enter Try.func22, Try.ntmps22
        go_wp2_with fail
        refine (specReadSome _ _ _ _ _ _ _ h hf (by omega) hx HR.out).mono ?_
        rintro e w' ⟨rfl, rfl⟩
        go_wp2_with fail
        go_ret3
        exact Out3.of (own_empty w 5) ((Below.refl _ _).alloc (Nat.le_refl _) _)
    · rw [rb_yes hr hbad]
      rw [hl] at hbad r4
      clear hr
      have HL := Lib.hid hl
      clear hl
      have hm' : (rn : Int) ≤ most := by omega
      have hd : decide ((n : Int) - (rs : Int) < (rn : Int)) = false := by simp; omega
      have hsn : rs + rn ≤ n := by omega
      clear hbad
      have hcut := has_cut h hsn
      obtain ⟨i0, hi, hz0, hz1, hz2⟩ := info_parts infoU8
      have ho := own_empty w 5
      have hb : Below w.heap.size w (w.alloc (.cells #[] 5)) := (Below.refl _ _).alloc (Nat.le_refl _) _
      have hcut' := hcut.alloc (.cells #[] 5)
      by_cases hz : rn = 0
      · subst hz
        have hzero := has_zero .u8 (w.alloc (.cells #[] 5)) (w.alloc (.cells #[] 5)).heap.size
        by_cases hcr : c = rs
        · subst hcr
          go_enter Try.func22, Try.ntmps22
          go_wp2_with fail
          refine (specReadSome _ _ _ _ _ _ _ h hf (by omega) hx HR.out).mono ?_
          rintro e w' ⟨rfl, rfl⟩
          go_wp2_with (at_builtin; refine wpList_app rfl (.tmp 35) (.tmp 41) 22 rfl w.heap.size 5 i0 Try.underlying22 hi hz0 hz1 (by rw [hz2]; decide) _ [] 0 rfl ho _ 0 _ [] rfl (fun h => by cases h) (hzero _) (by omega) hb.size ?_; intro v1 w1 ho1 hg1 _)
          have hb1 := hb.grown hg1 hb.size (fun g hg => by cases hg; exact Nat.le_refl _)
          go_ret3
          exact Out3.of (n := 0) (by simpa [rbR] using ho1) hb1
        · have hcr' : rs < c := by omega
          clear hcr
          go_enter Try.func22, Try.ntmps22
          go_wp2_with fail
          refine (specReadSome _ _ _ _ _ _ _ h hf (by omega) hx HR.out).mono ?_
          rintro e w' ⟨rfl, rfl⟩
          go_wp2_with (at_builtin; refine wpList_app rfl (.tmp 35) (.tmp 41) 22 rfl w.heap.size 5 i0 Try.underlying22 hi hz0 hz1 (by rw [hz2]; decide) _ [] 0 rfl ho _ 0 _ [] rfl (fun h => by cases h) (hzero _) (by omega) hb.size ?_; intro v1 w1 ho1 hg1 _)
          have hb1 := hb.grown hg1 hb.size (fun g hg => by cases hg; exact Nat.le_refl _)
          go_ret3
          exact Out3.of (n := 0) (by simpa [rbR] using ho1) hb1
      · have hz' : 0 < rn := by omega
        have hcr' : rs < c := by omega
        have hbnd : 0 + (rs + rn - rs) ≤ 1073741824 := by omega
        have hcutS : Has .u8 (w.alloc (.cells #[] 5)) (w.alloc (.cells #[] 5)).heap.size (some ⟨b, off + rs, none⟩) (rs + rn - rs) ((zs.drop rs).take rn) := by rw [Nat.add_sub_cancel_left]; exact hcut'
        have hby : i0.bytes ≤ 8 := by rw [hz2]; decide
        have hnn : (some (⟨b, off + rs, none⟩ : Addr) = none) → c - rs = 0 := fun h => by cases h
        go_enter Try.func22, Try.ntmps22
        go_wp2_with fail
        refine (specReadSome _ _ _ _ _ _ _ h hf (by omega) hx HR.out).mono ?_
        rintro e w' ⟨rfl, rfl⟩
        go_wp2_with (at_builtin; refine wpList_app rfl (.tmp 35) (.tmp 41) 22 rfl w.heap.size 5 i0 Try.underlying22 hi hz0 hz1 hby _ [] 0 rfl ho (some ⟨b, off + rs, none⟩) (rs + rn - rs) (c - rs) ((zs.drop rs).take rn) rfl hnn hcutS hbnd hb.size ?_; intro v1 w1 ho1 hg1 _)
        have hb1 := hb.grown hg1 hb.size (fun g hg => by cases hg; exact Nat.le_refl _)
        go_ret3
        exact Out3.of (n := 0 + (rs + rn - rs)) (by simpa [rbR] using ho1) hb1
end Go.Proofs.Ytjjbhccbbngdnaa
