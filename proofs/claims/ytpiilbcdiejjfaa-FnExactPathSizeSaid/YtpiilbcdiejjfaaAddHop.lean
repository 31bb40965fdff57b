
/- AppendHop of both sides, and addHop. -/
import Derived.Test.YtpiilbcdiejjfaaEncL
import Derived.Test.YtpiilbcdiejjfaaFields
import Derived.Test.YtpiilbcdiejjfaaVHop
import Derived.Test.YtpiilbcdiejjfaaWk
import Derived.Test.YtpiilbcdiejjfaaByteR
import Derived.Deep.RegionHeld3
namespace Go.Proofs.Ytpiilbcdiejjfaa
open Go.ChangeShapes Go.WideShapes Go.ChangeAt Go.RowKit
set_option linter.unusedVariables false
set_option maxRecDepth 100000 in
set_option maxHeartbeats 4000000 in
theorem implAddHop (x : THop) (v : Value) (lo : Nat) (bs : List Int) (w : World) (hown : OwB lo v bs w) (hlo : lo ≤ w.heap.size) (hL : bs.length ≤ 1073741700) :
    Calls Try.prog 62 #[v, .agg #[.int .i64 x.nd, .int .i64 x.ing, .int .i64 x.eg, .int .i64 x.exp, .int .i64 x.mac]] w fun e w' => ∃ v', e = .returned v' ∧ OwB lo v' (bs ++ hopBytes x) w' ∧ Gro v v' w w' := by
  have M0 := Mk.alloc w (Obj.cells #[Value.int .i64 x.nd, Value.int .i64 x.ing, Value.int .i64 x.eg, Value.int .i64 x.exp, Value.int .i64 x.mac] 27)
  cases hv : hopOk x with
  | false =>
    have hr : hopBytes x = [] := by simp [hopBytes, hv]
    rw [hr]
    have V : ∀ W, Calls Try.prog 95 #[.agg #[.int .i64 x.nd, .int .i64 x.ing, .int .i64 x.eg, .int .i64 x.exp, .int .i64 x.mac]] W fun en w' => en = .returned (.bool false) ∧ Mk0 W w' := fun W => ((implVHop x.nd x.ing x.eg x.exp x.mac W).mono fun e w' h => by have hv' : hopOk ⟨x.nd, x.ing, x.eg, x.exp, x.mac⟩ = false := hv; rw [hv'] at h; exact h)
    clear hr hv
    have HO := Lib.hid hown
    clear hown
    go_enter Try.func62, Try.ntmps62
    go_wp2_with fail
    refine (V _).mono ?_
    rintro e w1 ⟨rfl, m1⟩
    go_wp2_with fail
    go_ret
    exact ⟨v, rfl, by rw [List.append_nil]; exact HO.out.kept (M0.trans m1), Gro.of0 (M0.trans m1) v⟩
  | true =>
    have hr : hopBytes x = encL (hopF x) := by simp [hopBytes, hv]
    rw [hr]
    have V : ∀ W, Calls Try.prog 95 #[.agg #[.int .i64 x.nd, .int .i64 x.ing, .int .i64 x.eg, .int .i64 x.exp, .int .i64 x.mac]] W fun en w' => en = .returned (.bool true) ∧ Mk0 W w' := fun W => ((implVHop x.nd x.ing x.eg x.exp x.mac W).mono fun e w' h => by have hv' : hopOk ⟨x.nd, x.ing, x.eg, x.exp, x.mac⟩ = true := hv; rw [hv'] at h; exact h)
    clear hr hv
    have HE := Lib.hid (encN_take (hopF x))
    have HO := Lib.hid hown
    clear hown
    have k0 : (w.alloc (Obj.cells #[Value.int .i64 x.nd, Value.int .i64 x.ing, Value.int .i64 x.eg, Value.int .i64 x.exp, Value.int .i64 x.mac] 27)).cell? ⟨w.heap.size, 0, none⟩ = some (.int .i64 x.nd) := by simp [go_sem]
    have k1 : (w.alloc (Obj.cells #[Value.int .i64 x.nd, Value.int .i64 x.ing, Value.int .i64 x.eg, Value.int .i64 x.exp, Value.int .i64 x.mac] 27)).cell? ⟨w.heap.size, 1, none⟩ = some (.int .i64 x.ing) := by simp [go_sem]
    have k2 : (w.alloc (Obj.cells #[Value.int .i64 x.nd, Value.int .i64 x.ing, Value.int .i64 x.eg, Value.int .i64 x.exp, Value.int .i64 x.mac] 27)).cell? ⟨w.heap.size, 2, none⟩ = some (.int .i64 x.eg) := by simp [go_sem]
    have k3 : (w.alloc (Obj.cells #[Value.int .i64 x.nd, Value.int .i64 x.ing, Value.int .i64 x.eg, Value.int .i64 x.exp, Value.int .i64 x.mac] 27)).cell? ⟨w.heap.size, 3, none⟩ = some (.int .i64 x.exp) := by simp [go_sem]
    have k4 : (w.alloc (Obj.cells #[Value.int .i64 x.nd, Value.int .i64 x.ing, Value.int .i64 x.eg, Value.int .i64 x.exp, Value.int .i64 x.mac] 27)).cell? ⟨w.heap.size, 4, none⟩ = some (.int .i64 x.mac) := by simp [go_sem]
    go_enter Try.func62, Try.ntmps62
    go_wp2_with fail
    refine (V _).mono ?_
    rintro e w1 ⟨rfl, m1⟩
    replace k0 := m1.cellAt k0
    replace k1 := m1.cellAt k1
    replace k2 := m1.cellAt k2
    replace k3 := m1.cellAt k3
    replace k4 := m1.cellAt k4
    have M1 := M0.trans m1
    go_wp2_with fail
    refine (hopFieldsO x _).mono ?_
    rintro e w2 ⟨A, c, rfl, hc, hA, m2⟩
    have oR := hA.toR (hi := w2.heap.size) (Nat.le_refl _)
    have M2 := M1.trans m2
    have hz := M2.size
    have hz1 := M1.size
    have OB : OwB lo v bs w2 := HO.out.kept M2
    clear k0 k1 k2 k3 k4 hA
    have hlt0 : ∀ q, v.ownBlock = some q → q < w1.heap.size ∨ w2.heap.size ≤ q := fun q e => .inl (by have := (HO.out.lt q e).2; omega)
    have HT := Lib.hid hlt0
    clear hlt0
    go_wp2_with fail
    go_loopw [0, 14] (fun u i wr => ∃ k : Nat, k ≤ 5 ∧ i = .int .i64 k ∧ OwB lo u (bs ++ encN (hopF x) k) wr ∧ Gro v u w2 wr) (fun _ i _ => 5 - (intOf i).toNat)
    case atStart => exact ⟨0, Nat.zero_le _, rfl, by simpa [encN] using OB, Gro.refl _ _⟩
    case round =>
      clear OB
      obtain ⟨k, hk, rfl, ho, hG⟩ := hrel
      have hzr := hG.size
      by_cases hlt : k < 5
      · have oR' := hG.row oR HT.out (Nat.le_refl _)
        obtain ⟨b, off, z, rfl, hbs, hz', hcell⟩ := (hasR_int.1 oR'.has).at_ hlt
        have hen := encN_len (hopF x) k
        have hlen : (bs ++ encN (hopF x) k).length ≤ 1073741800 := by rw [List.length_append]; omega
        have hstep : bs ++ encN (hopF x) (k + 1) = (bs ++ encN (hopF x) k) ++ vb z := by rw [hz'.out, List.append_assoc]; rfl
        have HS := Lib.hid hstep
        clear hstep hen oR'
        go_wp2_with fail
        refine (addVarintB _ _ lo _ _ ho (by omega) hlen).mono ?_
        rintro e w3 ⟨u', rfl, ho2, g2⟩
        go_wp2_with fail
        go_roundw
        case rel => exact ⟨k + 1, by omega, by go_num, by rw [HS.out]; exact ho2, hG.trans g2⟩
        case measure => simp [intOf]; omega
      · obtain rfl : k = 5 := by omega
        go_wp2
        go_ret
        exact ⟨_, rfl, by rw [show encL (hopF x) = encN (hopF x) 5 from ((HE.out 5 (by simp [hopF])).trans (by rfl)).symm]; exact ho, (Gro.of0 M2 v).trans hG⟩
set_option maxRecDepth 100000 in
set_option maxHeartbeats 4000000 in
theorem implAppHop (x : THop) (a : Option Addr) (n c : Nat) (bs : List Int) (w : World) (h : Has .u8 w w.heap.size a n bs) (hc0 : a = none → c = 0) (hn : n ≤ 268435456) :
    Calls Try.prog 18 #[.slice a n c, .agg #[.int .i64 x.nd, .int .i64 x.ing, .int .i64 x.eg, .int .i64 x.exp, .int .i64 x.mac]] w (OutB w (bs ++ hopBytes x)) := by
  have M0 := Mk.alloc w (Obj.cells #[Value.int .i64 x.nd, Value.int .i64 x.ing, Value.int .i64 x.eg, Value.int .i64 x.exp, Value.int .i64 x.mac] 27)
  have hl := h.1
  have HL := Lib.hid hl
  clear hl
  have HC := Lib.hid hc0
  clear hc0
  have hs1 : (w.alloc (Obj.cells #[Value.int .i64 x.nd, Value.int .i64 x.ing, Value.int .i64 x.eg, Value.int .i64 x.exp, Value.int .i64 x.mac] 27)).heap.size = w.heap.size + 1 := by rw [World.size_alloc]
  have HH : ∀ w', Mk0 (w.alloc (Obj.cells #[Value.int .i64 x.nd, Value.int .i64 x.ing, Value.int .i64 x.eg, Value.int .i64 x.exp, Value.int .i64 x.mac] 27)) w' → Has .u8 w' w'.heap.size a n bs := fun w' m => (h.next (M0.trans m).below0)
  have k0 : (w.alloc (Obj.cells #[Value.int .i64 x.nd, Value.int .i64 x.ing, Value.int .i64 x.eg, Value.int .i64 x.exp, Value.int .i64 x.mac] 27)).cell? ⟨w.heap.size, 0, none⟩ = some (.int .i64 x.nd) := by simp [go_sem]
  have k1 : (w.alloc (Obj.cells #[Value.int .i64 x.nd, Value.int .i64 x.ing, Value.int .i64 x.eg, Value.int .i64 x.exp, Value.int .i64 x.mac] 27)).cell? ⟨w.heap.size, 1, none⟩ = some (.int .i64 x.ing) := by simp [go_sem]
  have k2 : (w.alloc (Obj.cells #[Value.int .i64 x.nd, Value.int .i64 x.ing, Value.int .i64 x.eg, Value.int .i64 x.exp, Value.int .i64 x.mac] 27)).cell? ⟨w.heap.size, 2, none⟩ = some (.int .i64 x.eg) := by simp [go_sem]
  have k3 : (w.alloc (Obj.cells #[Value.int .i64 x.nd, Value.int .i64 x.ing, Value.int .i64 x.eg, Value.int .i64 x.exp, Value.int .i64 x.mac] 27)).cell? ⟨w.heap.size, 3, none⟩ = some (.int .i64 x.exp) := by simp [go_sem]
  have k4 : (w.alloc (Obj.cells #[Value.int .i64 x.nd, Value.int .i64 x.ing, Value.int .i64 x.eg, Value.int .i64 x.exp, Value.int .i64 x.mac] 27)).cell? ⟨w.heap.size, 4, none⟩ = some (.int .i64 x.mac) := by simp [go_sem]
  go_enter Try.func18, Try.ntmps18
  go_wp2_with fail
  go_region_held3 (fun w' => Mk0 (w.alloc (Obj.cells #[Value.int .i64 x.nd, Value.int .i64 x.ing, Value.int .i64 x.eg, Value.int .i64 x.exp, Value.int .i64 x.mac] 27)) w' ∧ w'.cell? ⟨w.heap.size, 0, none⟩ = some (.int .i64 x.nd) ∧ w'.cell? ⟨w.heap.size, 1, none⟩ = some (.int .i64 x.ing) ∧ w'.cell? ⟨w.heap.size, 2, none⟩ = some (.int .i64 x.eg) ∧ w'.cell? ⟨w.heap.size, 3, none⟩ = some (.int .i64 x.exp) ∧ w'.cell? ⟨w.heap.size, 4, none⟩ = some (.int .i64 x.mac)) (first | exact ⟨Mk.drew1 _, k0, k1, k2, k3, k4⟩ | (obtain ⟨s0, s1, s2, s3, s4, s5⟩ := ‹Mk0 (w.alloc (Obj.cells #[Value.int .i64 x.nd, Value.int .i64 x.ing, Value.int .i64 x.eg, Value.int .i64 x.exp, Value.int .i64 x.mac] 27)) _ ∧ _›; exact ⟨s0.trans mm, mm.cellAt s1, mm.cellAt s2, mm.cellAt s3, mm.cellAt s4, mm.cellAt s5⟩) | exact ⟨nn, nn.cellAt k0, nn.cellAt k1, nn.cellAt k2, nn.cellAt k3, nn.cellAt k4⟩) (first | (go_at_call 63; refine (cloneAny a n c bs _ (HH _ (‹Mk0 (w.alloc (Obj.cells #[Value.int .i64 x.nd, Value.int .i64 x.ing, Value.int .i64 x.eg, Value.int .i64 x.exp, Value.int .i64 x.mac] 27)) _ ∧ _›).1) HC.out hn).mono ?_; rintro e wa hob; obtain ⟨v1, rfl, ob, mm⟩ := OwB.of hob; have hsz := (‹Mk0 (w.alloc (Obj.cells #[Value.int .i64 x.nd, Value.int .i64 x.ing, Value.int .i64 x.eg, Value.int .i64 x.exp, Value.int .i64 x.mac] 27)) _ ∧ _›).1.size) | (go_at_call 62; refine (implAddHop x v1 (w.alloc (Obj.cells #[Value.int .i64 x.nd, Value.int .i64 x.ing, Value.int .i64 x.eg, Value.int .i64 x.exp, Value.int .i64 x.mac] 27)).heap.size bs _ (ob.low hsz) (‹Mk0 (w.alloc (Obj.cells #[Value.int .i64 x.nd, Value.int .i64 x.ing, Value.int .i64 x.eg, Value.int .i64 x.exp, Value.int .i64 x.mac] 27)) _ ∧ _›).1.size (by rw [HL.out]; omega)).mono ?_; rintro e wb ⟨v2, rfl, ob2, gg⟩; have nn := (ob.low hsz).gro0 (‹Mk0 (w.alloc (Obj.cells #[Value.int .i64 x.nd, Value.int .i64 x.ing, Value.int .i64 x.eg, Value.int .i64 x.exp, Value.int .i64 x.mac] 27)) _ ∧ _›).1 gg))
  refine ‹∀ (a : Act) (w : World), _ → _› _ _ ?_
  go_wp2_with fail
  go_ret
  exact (ob2.low M0.size).out (M0.trans (‹Mk0 (w.alloc (Obj.cells #[Value.int .i64 x.nd, Value.int .i64 x.ing, Value.int .i64 x.eg, Value.int .i64 x.exp, Value.int .i64 x.mac] 27)) _ ∧ _›).1)
set_option maxRecDepth 100000 in
set_option maxHeartbeats 4000000 in
theorem specAppHop (x : THop) (a : Option Addr) (n c : Nat) (bs : List Int) (w : World) (h : Has .u8 w w.heap.size a n bs) (hc0 : a = none → c = 0) (hn : n ≤ 268435456) :
    Calls Try.prog 15 #[.slice a n c, .agg #[.int .i64 x.nd, .int .i64 x.ing, .int .i64 x.eg, .int .i64 x.exp, .int .i64 x.mac]] w (OutB w (bs ++ hopBytes x)) := by
  have M0 := Mk.alloc w (Obj.cells #[Value.int .i64 x.nd, Value.int .i64 x.ing, Value.int .i64 x.eg, Value.int .i64 x.exp, Value.int .i64 x.mac] 27)
  have hl := h.1
  have HL := Lib.hid hl
  clear hl
  have HC := Lib.hid hc0
  clear hc0
  have hs1 : (w.alloc (Obj.cells #[Value.int .i64 x.nd, Value.int .i64 x.ing, Value.int .i64 x.eg, Value.int .i64 x.exp, Value.int .i64 x.mac] 27)).heap.size = w.heap.size + 1 := by rw [World.size_alloc]
  have obn : OwB (w.alloc (Obj.cells #[Value.int .i64 x.nd, Value.int .i64 x.ing, Value.int .i64 x.eg, Value.int .i64 x.exp, Value.int .i64 x.mac] 27)).heap.size (.slice (some ⟨w.heap.size + 1, 0, none⟩) 0 0) [] ((w.alloc (Obj.cells #[Value.int .i64 x.nd, Value.int .i64 x.ing, Value.int .i64 x.eg, Value.int .i64 x.exp, Value.int .i64 x.mac] 27)).alloc (Obj.cells #[] 5)) := by rw [← hs1]; exact OwB.nil _
  have ob0 := obn.low (lo' := w.heap.size + 1) (by omega)
  have MU := M0.new (Obj.cells #[] 5)
  have hu := h.next MU.below0
  have k0 : (w.alloc (Obj.cells #[Value.int .i64 x.nd, Value.int .i64 x.ing, Value.int .i64 x.eg, Value.int .i64 x.exp, Value.int .i64 x.mac] 27)).cell? ⟨w.heap.size, 0, none⟩ = some (.int .i64 x.nd) := by simp [go_sem]
  have k1 : (w.alloc (Obj.cells #[Value.int .i64 x.nd, Value.int .i64 x.ing, Value.int .i64 x.eg, Value.int .i64 x.exp, Value.int .i64 x.mac] 27)).cell? ⟨w.heap.size, 1, none⟩ = some (.int .i64 x.ing) := by simp [go_sem]
  have k2 : (w.alloc (Obj.cells #[Value.int .i64 x.nd, Value.int .i64 x.ing, Value.int .i64 x.eg, Value.int .i64 x.exp, Value.int .i64 x.mac] 27)).cell? ⟨w.heap.size, 2, none⟩ = some (.int .i64 x.eg) := by simp [go_sem]
  have k3 : (w.alloc (Obj.cells #[Value.int .i64 x.nd, Value.int .i64 x.ing, Value.int .i64 x.eg, Value.int .i64 x.exp, Value.int .i64 x.mac] 27)).cell? ⟨w.heap.size, 3, none⟩ = some (.int .i64 x.exp) := by simp [go_sem]
  have k4 : (w.alloc (Obj.cells #[Value.int .i64 x.nd, Value.int .i64 x.ing, Value.int .i64 x.eg, Value.int .i64 x.exp, Value.int .i64 x.mac] 27)).cell? ⟨w.heap.size, 4, none⟩ = some (.int .i64 x.mac) := by simp [go_sem]
  have hzlo : w.heap.size + 1 ≤ ((w.alloc (Obj.cells #[Value.int .i64 x.nd, Value.int .i64 x.ing, Value.int .i64 x.eg, Value.int .i64 x.exp, Value.int .i64 x.mac] 27)).alloc (Obj.cells #[] 5)).heap.size := by rw [World.size_alloc, hs1]; omega
  have IH := Lib.hid (fun (w' : World) (m : Mk0 (w.alloc (Obj.cells #[Value.int .i64 x.nd, Value.int .i64 x.ing, Value.int .i64 x.eg, Value.int .i64 x.exp, Value.int .i64 x.mac] 27)) w') => And.intro (m.cellAt k0) (And.intro (m.cellAt k1) (And.intro (m.cellAt k2) (And.intro (m.cellAt k3) (m.cellAt k4)))))
  clear k0 k1 k2 k3 k4
  cases hv : hopOk x with
  | false =>
    have hr : hopBytes x = [] := by simp [hopBytes, hv]
    rw [hr]
    have V : ∀ W, Calls Try.prog 60 #[.agg #[.int .i64 x.nd, .int .i64 x.ing, .int .i64 x.eg, .int .i64 x.exp, .int .i64 x.mac]] W fun en w' => en = .returned (.bool false) ∧ Mk0 W w' := fun W => ((specVHop x.nd x.ing x.eg x.exp x.mac W).mono fun e w' h => by have hv' : hopOk ⟨x.nd, x.ing, x.eg, x.exp, x.mac⟩ = false := hv; rw [hv'] at h; exact h)
    clear hr hv
    go_enter Try.func15, Try.ntmps15
    go_wp2_with (at_builtin; refine wpList_appB rfl (.tmp 6) (.tmp 7) rfl (w.heap.size + 1) (.slice (some ⟨w.heap.size + 1, 0, none⟩) 0 0) [] rfl ob0 a n c bs rfl HC.out hu (by simp only [List.length_nil]; omega) hzlo ?_; intro v1 w1 ob1 g1; have mU := obn.gro0 (Mk.alloc (w.alloc (Obj.cells #[Value.int .i64 x.nd, Value.int .i64 x.ing, Value.int .i64 x.eg, Value.int .i64 x.exp, Value.int .i64 x.mac] 27)) (Obj.cells #[] 5)) g1; obtain ⟨d0, d1, d2, d3, d4⟩ := IH.out _ mU)
    have ob2 := ob1.low (lo' := w.heap.size) (Nat.le_succ _)
    rw [List.nil_append] at ob2
    clear ob1 g1
    refine (V _).mono ?_
    rintro e w2 ⟨rfl, m2⟩
    have ob3 := ob2.kept m2
    clear ob2
    go_wp2_with fail
    go_ret
    exact OwB.out (by rw [List.append_nil]; exact ob3) (M0.trans (mU.trans m2))
  | true =>
    have hr : hopBytes x = encL (hopF x) := by simp [hopBytes, hv]
    rw [hr]
    have V : ∀ W, Calls Try.prog 60 #[.agg #[.int .i64 x.nd, .int .i64 x.ing, .int .i64 x.eg, .int .i64 x.exp, .int .i64 x.mac]] W fun en w' => en = .returned (.bool true) ∧ Mk0 W w' := fun W => ((specVHop x.nd x.ing x.eg x.exp x.mac W).mono fun e w' h => by have hv' : hopOk ⟨x.nd, x.ing, x.eg, x.exp, x.mac⟩ = true := hv; rw [hv'] at h; exact h)
    clear hr hv
    go_enter Try.func15, Try.ntmps15
    go_wp2_with (at_builtin; refine wpList_appB rfl (.tmp 6) (.tmp 7) rfl (w.heap.size + 1) (.slice (some ⟨w.heap.size + 1, 0, none⟩) 0 0) [] rfl ob0 a n c bs rfl HC.out hu (by simp only [List.length_nil]; omega) hzlo ?_; intro v1 w1 ob1 g1; have mU := obn.gro0 (Mk.alloc (w.alloc (Obj.cells #[Value.int .i64 x.nd, Value.int .i64 x.ing, Value.int .i64 x.eg, Value.int .i64 x.exp, Value.int .i64 x.mac] 27)) (Obj.cells #[] 5)) g1; obtain ⟨d0, d1, d2, d3, d4⟩ := IH.out _ mU)
    have ob2 := ob1.low (lo' := w.heap.size) (Nat.le_succ _)
    rw [List.nil_append] at ob2
    clear ob1 g1
    refine (V _).mono ?_
    rintro e w2 ⟨rfl, m2⟩
    have ob3 := ob2.kept m2
    clear ob2 d0 d1 d2 d3 d4
    have m2' := mU.trans m2
    obtain ⟨d0, d1, d2, d3, d4⟩ := IH.out _ m2'
    have hh := lit_has w2 3 (hopF x) 5 rfl
    go_wp2_with fail
    refine (specEncodeInts (some ⟨w2.heap.size, 0, none⟩) 5 5 (hopF x) _ hh (by omega)).mono ?_
    rintro e w3 hob
    obtain ⟨v3, rfl, ob4, m4⟩ := OwB.of hob
    have m4' : Mk0 w2 w3 := (Mk.alloc _ _).trans m4
    have m3 := m2'.trans m4'
    replace ob3 := ob3.kept m4'
    obtain ⟨A, L, cc, rfl, hcc, hA, hLL⟩ := ob4.slice
    have hen := encN_len (hopF x) 5
    have hL5 : L ≤ 30 := by rw [hLL.out]; omega
    have M3 := M0.trans m3
    have hz3 := M3.size
    clear d0 d1 d2 d3 d4 hh
    go_wp2_with (at_builtin; refine wpList_appB rfl (.tmp 13) (.tmp 25) rfl w.heap.size v1 bs rfl ob3 A L cc (encN (hopF x) 5) rfl hcc hA (by rw [HL.out]; omega) hz3 ?_; intro v5 w5 ob5 g5)
    go_ret
    exact OwB.out (by rw [← encN_all (hopF x) 5 rfl]; exact ob5) (ob3.gro0 M3 g5)

theorem specAppHopR (x : THop) (a : Option Addr) (n c B : Nat) (bs : List Int) (w : World) (h : HasByte w B a n bs) (hB : B ≤ w.heap.size) (hc0 : a = none → c = 0) (hn : n ≤ 1048576) :
    Calls Try.prog 15 #[.slice a n c, .agg #[.int .i64 x.nd, .int .i64 x.ing, .int .i64 x.eg, .int .i64 x.exp, .int .i64 x.mac]] w (OutRows 1 (icell .u8) w (bs ++ hopBytes x)) :=
  (specAppHop x a n c bs w (hasR_int.1 (h.mono hB)) hc0 (by omega)).mono fun _ _ h => h.rows

theorem implAppHopR (x : THop) (a : Option Addr) (n c B : Nat) (bs : List Int) (w : World) (h : HasByte w B a n bs) (hB : B ≤ w.heap.size) (hc0 : a = none → c = 0) (hn : n ≤ 1048576) :
    Calls Try.prog 18 #[.slice a n c, .agg #[.int .i64 x.nd, .int .i64 x.ing, .int .i64 x.eg, .int .i64 x.exp, .int .i64 x.mac]] w (OutRows 1 (icell .u8) w (bs ++ hopBytes x)) :=
  (implAppHop x a n c bs w (hasR_int.1 (h.mono hB)) hc0 (by omega)).mono fun _ _ h => h.rows

end Go.Proofs.Ytpiilbcdiejjfaa
