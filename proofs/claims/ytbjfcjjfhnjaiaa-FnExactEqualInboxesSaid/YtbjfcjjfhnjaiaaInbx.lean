
/- FindInbox, ValidInbox, EqualInboxes of both sides. -/
import Derived.Test.YtbjfcjjfhnjaiaaNInbox
import Derived.Test.YtbjfcjjfhnjaiaaOMessage
import Derived.Test.YtbjfcjjfhnjaiaaSameBy
import Derived.Test.YtbjfcjjfhnjaiaaEqPaths
import Derived.Test.YtbjfcjjfhnjaiaaUpd
import Derived.Test.YtbjfcjjfhnjaiaaInB
import Derived.Test.YtbjfcjjfhnjaiaaWk
import Derived.Test.YtbjfcjjfhnjaiaaRet
import Derived.Laws.EntriesVeiled
namespace Go.Proofs.Ytbjfcjjfhnjaiaa
open Go.ChangeShapes Go.WideShapes Go.ChangeAt Go.RowKit
set_option linter.unusedVariables false
def isBox (at_ from_ : Int) (x : TInbox) : Bool := (x.as_ == at_) && (x.src == from_)
def bigM (x : TMessage) : Bool := decide (40 < x.data.length)
def longB (ms : List TMessage) (n : Nat) : Bool := decide (0 ≤ firstP bigM ms n n)
def vInB (x0 x1 x2 : Int) (n3 : Nat) (z3 : List TMessage) : Bool := inB x1 0 7 && (inB x0 0 7 && (!(x1 == x0) && ((x2 == (n3 : Int)) && (decide ((n3 : Int) ≤ 20) && !(longB z3 n3)))))
def eqM (x y : TMessage) : Bool := eqB x.data y.data
def eqInB (x0 x1 x2 y0 y1 y2 : Int) (b : Bool) : Bool := (x0 == y0) && ((x1 == y1) && ((x2 == y2) && b))
theorem long_no {ps : List TMessage} {n : Nat} (h : firstP bigM ps n n = firstP bigM ps n 0) : longB ps n = false := by unfold longB; rw [h]; rfl
theorem long_yes {ps : List TMessage} {n k : Nat} (h : firstP bigM ps n n = (k : Int)) : longB ps n = true := by unfold longB; rw [h]; exact decide_eq_true (by omega)
theorem fitM {zs : List TMessage} {k : Nat} (hf : ∀ x ∈ zs, TMessage.fits x) (hk : k < zs.length) : ∀ y ∈ (zs.getD k default).data, (Lit.int .u8 y).wf = true := by
  rw [List.getD_eq_getElem?_getD, List.getElem?_eq_getElem hk]
  exact hf _ (List.getElem_mem hk)
set_option maxRecDepth 100000 in
set_option maxHeartbeats 4000000 in
theorem boxClosure (at_ from_ : Int) (p q : Nat) (x : TInbox) (a3 : Option Addr) (n3 c3 : Nat) (w : World) (kp : w.cell? ⟨p, 0, none⟩ = some (.int .i64 at_)) (kq : w.cell? ⟨q, 0, none⟩ = some (.int .i64 from_)) :
    Calls Try.prog 84 #[.agg #[.int .i64 x.as_, .int .i64 x.src, .int .i64 x.next, .slice a3 n3 c3], .pointer (some ⟨p, 0, none⟩), .pointer (some ⟨q, 0, none⟩)] w fun e w' => e = .returned (.bool (isBox at_ from_ x)) ∧ Mk0 w w' := by
  have M0 := Mk.alloc w (Obj.cells #[Value.int .i64 x.as_, Value.int .i64 x.src, Value.int .i64 x.next, Value.slice a3 n3 c3] 64)
  have yp := World.block_lt_of_cell? _ _ kp
  have yq := World.block_lt_of_cell? _ _ kq
  simp only at yp yq
  cases e0 : (x.as_ == at_)
  · have E0 := Lib.hid e0
    go_enter Try.func84, Try.ntmps84
    go_wp2_with fail
    go_ret
    exact ⟨retB (by unfold isBox; rw [E0.out]; rfl), M0⟩
  · have E0 := Lib.hid e0
    go_enter Try.func84, Try.ntmps84
    go_wp2_with fail
    go_ret
    exact ⟨retB (by unfold isBox; rw [E0.out]; rfl), M0⟩

set_option maxRecDepth 100000 in
set_option maxHeartbeats 4000000 in
theorem indexBox (at_ from_ : Int) (p q : Nat) (a : Option Addr) (n c B : Nat) (zs : List TInbox) (w : World) (h : HasInbox w B a n zs) (hB : B ≤ w.heap.size) (hn : szInbox zs n ≤ 1048576) (kp : w.cell? ⟨p, 0, none⟩ = some (.int .i64 at_)) (kq : w.cell? ⟨q, 0, none⟩ = some (.int .i64 from_)) :
    Calls Try.prog 83 #[.slice a n c, .func (.func 84) #[] #[.pointer (some ⟨p, 0, none⟩), .pointer (some ⟨q, 0, none⟩)]] w fun e w' => e = .returned (.int .i64 (firstP (isBox at_ from_) zs n n)) ∧ Mk0 w w' := by
  have hn0 : n ≤ 1048576 := Nat.le_trans (szInbox_n zs n) hn
  go_enter Try.func83, Try.ntmps83
  go_wp2_with fail
  go_loopw [4, 8] (fun r i wr => r = .int .i64 0 ∧ ∃ k : Nat, k ≤ n ∧ i = .int .i64 k ∧ Hid (firstP (isBox at_ from_) zs n n = firstP (isBox at_ from_) zs n (n - k)) ∧ Mk0 w wr) (fun _ i _ => n - (intOf i).toNat)
  case atStart => exact ⟨rfl, 0, Nat.zero_le _, rfl, rfl, Mk.refl _ _ _⟩
  case round =>
    obtain ⟨rfl, k, hk, rfl, hS, hM⟩ := hrel
    by_cases hlt : k < n
    · obtain ⟨b, off, x, rfl, hb, hx, a3, n3, c3, d0, d1, d2, d3, r3, m3, t3, z3'⟩ := HasInbox.at _ _ _ _ _ _ (h.mk hM hB (.inr (Nat.le_refl _))) hlt
      have hen : (callFunc 84 #[.agg #[.int .i64 x.as_, .int .i64 x.src, .int .i64 x.next, .slice a3 n3 c3], .pointer (some ⟨p, 0, none⟩), .pointer (some ⟨q, 0, none⟩)]).run Try.prog wr = .ok (.enter 84 #[.agg #[.int .i64 x.as_, .int .i64 x.src, .int .i64 x.next, .slice a3 n3 c3], .pointer (some ⟨p, 0, none⟩), .pointer (some ⟨q, 0, none⟩)]) wr := by kernel_rfl
      cases hp : isBox at_ from_ x
      · have HE := Lib.hid (show firstP (isBox at_ from_) zs n n = firstP (isBox at_ from_) zs n (n - (k + 1)) by rw [hS.out]; exact firstP_go hlt (by rw [← hx.out, hp]))
        have HP := Lib.hid hp
        clear hp
        go_wp2_with fail
        refine (boxClosure at_ from_ p q x a3 n3 c3 _ (hM.cellAt kp) (hM.cellAt kq)).mono ?_
        rintro e w2 ⟨he, m2⟩
        rw [HP.out] at he
        subst he
        go_wp2_with fail
        go_roundw
        case rel => exact ⟨rfl, k + 1, by omega, by go_num, HE.out, hM.trans m2⟩
        case measure => simp [intOf]; omega
      · have HE := Lib.hid (show firstP (isBox at_ from_) zs n n = (k : Int) by rw [hS.out]; exact firstP_stop hlt (by rw [← hx.out, hp]))
        have HP := Lib.hid hp
        clear hp
        go_wp2_with fail
        refine (boxClosure at_ from_ p q x a3 n3 c3 _ (hM.cellAt kp) (hM.cellAt kq)).mono ?_
        rintro e w2 ⟨he, m2⟩
        rw [HP.out] at he
        subst he
        go_wp2_with fail
        go_ret
        exact ⟨retI HE.out.symm, hM.trans m2⟩
    · obtain rfl : n = k := by omega
      go_wp2_with fail
      go_ret
      exact ⟨retI (by rw [hS.out, Nat.sub_self]; rfl), hM⟩

set_option maxRecDepth 100000 in
set_option maxHeartbeats 4000000 in
theorem implFindIn (at_ from_ : Int) (a : Option Addr) (n c B : Nat) (zs : List TInbox) (w : World) (h : HasInbox w B a n zs) (hB : B ≤ w.heap.size) (hn : szInbox zs n ≤ 1048576) :
    Calls Try.prog 47 #[.slice a n c, .int .i64 at_, .int .i64 from_] w fun e w' => e = .returned (.int .i64 (firstP (isBox at_ from_) zs n n)) ∧ Mk0 w w' := by
  have M0 := (Mk.alloc w (Obj.cells #[Value.int .i64 at_] 3)).new (Obj.cells #[Value.int .i64 from_] 3)
  have kp : ((w.alloc (Obj.cells #[Value.int .i64 at_] 3)).alloc (Obj.cells #[Value.int .i64 from_] 3)).cell? ⟨w.heap.size, 0, none⟩ = some (.int .i64 at_) := by simp [go_sem]
  have kq : ((w.alloc (Obj.cells #[Value.int .i64 at_] 3)).alloc (Obj.cells #[Value.int .i64 from_] 3)).cell? ⟨w.heap.size + 1, 0, none⟩ = some (.int .i64 from_) := by simp [go_sem]
  go_enter Try.func47, Try.ntmps47
  go_wp2_with fail
  refine (indexBox at_ from_ w.heap.size (w.heap.size + 1) a n c B zs _ (h.mk M0 hB (.inr (Nat.le_refl _))) (Nat.le_trans hB M0.size) hn kp kq).mono ?_
  rintro e w2 ⟨rfl, m2⟩
  go_wp2_with fail
  go_ret
  exact ⟨rfl, M0.trans m2⟩

set_option maxRecDepth 100000 in
set_option maxHeartbeats 4000000 in
theorem specFindIn (at_ from_ : Int) (a : Option Addr) (n c B : Nat) (zs : List TInbox) (w : World) (h : HasInbox w B a n zs) (hB : B ≤ w.heap.size) (hn : szInbox zs n ≤ 1048576) :
    Calls Try.prog 45 #[.slice a n c, .int .i64 at_, .int .i64 from_] w fun e w' => e = .returned (.int .i64 (firstP (isBox at_ from_) zs n n)) ∧ Mk0 w w' := by
  have hn0 : n ≤ 1048576 := Nat.le_trans (szInbox_n zs n) hn
  go_enter Try.func45, Try.ntmps45
  go_wp2_with fail
  go_loopw [6, 7] (fun r i wr => r = .int .i64 0 ∧ ∃ k : Nat, k ≤ n ∧ i = .int .i64 k ∧ Hid (firstP (isBox at_ from_) zs n n = firstP (isBox at_ from_) zs n (n - k)) ∧ Mk0 w wr) (fun _ i _ => n - (intOf i).toNat)
  case atStart => exact ⟨rfl, 0, Nat.zero_le _, rfl, rfl, Mk.refl _ _ _⟩
  case round =>
    obtain ⟨rfl, k, hk, rfl, hS, hM⟩ := hrel
    by_cases hlt : k < n
    · obtain ⟨b, off, x, rfl, hb, hx, a3, n3, c3, d0, d1, d2, d3, r3, m3, t3, z3'⟩ := HasInbox.at _ _ _ _ _ _ (h.mk hM hB (.inr (Nat.le_refl _))) hlt
      cases e0 : (x.as_ == at_)
      · have HE := Lib.hid (show firstP (isBox at_ from_) zs n n = firstP (isBox at_ from_) zs n (n - (k + 1)) by rw [hS.out]; exact firstP_go hlt (by rw [← hx.out]; unfold isBox; rw [e0]; rfl))
        go_wp2_with fail
        go_roundw
        case rel => exact ⟨rfl, k + 1, by omega, by go_num, HE.out, hM⟩
        case measure => simp [intOf]; omega
      · cases e1 : (x.src == from_)
        · have HE := Lib.hid (show firstP (isBox at_ from_) zs n n = firstP (isBox at_ from_) zs n (n - (k + 1)) by rw [hS.out]; exact firstP_go hlt (by rw [← hx.out]; unfold isBox; rw [e0, e1]; rfl))
          go_wp2_with fail
          go_roundw
          case rel => exact ⟨rfl, k + 1, by omega, by go_num, HE.out, hM⟩
          case measure => simp [intOf]; omega
        · have HE := Lib.hid (show firstP (isBox at_ from_) zs n n = (k : Int) by rw [hS.out]; exact firstP_stop hlt (by rw [← hx.out]; unfold isBox; rw [e0, e1]; rfl))
          go_wp2_with fail
          go_ret
          exact ⟨retI HE.out.symm, hM⟩
    · obtain rfl : n = k := by omega
      go_wp2_with fail
      go_ret
      exact ⟨retI (by rw [hS.out, Nat.sub_self]; rfl), hM⟩

set_option maxRecDepth 100000 in
set_option maxHeartbeats 4000000 in
theorem bigClosureTrue (ah : Option Addr) (nh ch : Nat) (w : World) (hc : 40 < nh) (hn : nh ≤ 1048576) :
    Calls Try.prog 106 #[.agg #[.slice ah nh ch]] w fun e w' => e = .returned (.bool true) ∧ Mk0 w w' := by
  have hc' : (40 : Int) < (nh : Int) := by omega
  go_enter Try.func106, Try.ntmps106
  go_wp2_with fail
  go_ret
  exact ⟨rfl, Mk.alloc _ _⟩

set_option maxRecDepth 100000 in
set_option maxHeartbeats 4000000 in
theorem bigClosureFalse (ah : Option Addr) (nh ch : Nat) (w : World) (hc : nh ≤ 40) (hn : nh ≤ 1048576) :
    Calls Try.prog 106 #[.agg #[.slice ah nh ch]] w fun e w' => e = .returned (.bool false) ∧ Mk0 w w' := by
  have hc' : (nh : Int) ≤ 40 := by omega
  go_enter Try.func106, Try.ntmps106
  go_wp2_with fail
  go_ret
  exact ⟨retB (decide_eq_false (by omega)), Mk.alloc _ _⟩

set_option maxRecDepth 100000 in
set_option maxHeartbeats 4000000 in
theorem indexBig (a3 : Option Addr) (n3 c3 B : Nat) (z3 : List TMessage) (w : World) (h3 : HasMessage w B a3 n3 z3) (hB : B ≤ w.heap.size) (hn3 : szMessage z3 n3 ≤ 1048576) :
    Calls Try.prog 122 #[.slice a3 n3 c3, .func (.func 106) #[] #[]] w fun e w' => e = .returned (.int .i64 (firstP bigM z3 n3 n3)) ∧ Mk0 w w' := by
  have hn0 : n3 ≤ 1048576 := Nat.le_trans (szMessage_n z3 n3) hn3
  go_enter Try.func122, Try.ntmps122
  go_wp2_with fail
  go_loopw [4, 8] (fun r i wr => r = .int .i64 0 ∧ ∃ k : Nat, k ≤ n3 ∧ i = .int .i64 k ∧ Hid (firstP bigM z3 n3 n3 = firstP bigM z3 n3 (n3 - k)) ∧ Mk0 w wr) (fun _ i _ => n3 - (intOf i).toNat)
  case atStart => exact ⟨rfl, 0, Nat.zero_le _, rfl, rfl, Mk.refl _ _ _⟩
  case round =>
    obtain ⟨rfl, k, hk, rfl, hS, hM⟩ := hrel
    by_cases hlt : k < n3
    · obtain ⟨b, off, x, rfl, hb, hx, ah, nh, ch, d0, r0, m0, t0, z0'⟩ := HasMessage.at _ _ _ _ _ _ (h3.mk hM hB (.inr (Nat.le_refl _))) hlt
      have hnh : nh ≤ 1048576 := by have HS := szMessage_at z3 hlt; unfold seMessage at HS; rw [← hx.out, r0.1] at HS; omega
      have hen : (callFunc 106 #[.agg #[.slice ah nh ch]]).run Try.prog wr = .ok (.enter 106 #[.agg #[.slice ah nh ch]]) wr := by kernel_rfl
      have hpx : bigM x = decide (40 < nh) := by unfold bigM; rw [r0.1]
      by_cases hp : 40 < nh
      · have HE := Lib.hid (show firstP bigM z3 n3 n3 = (k : Int) by rw [hS.out]; exact firstP_stop hlt (by rw [← hx.out, hpx]; exact decide_eq_true hp))
        go_wp2_with fail
        refine (bigClosureTrue ah nh ch _ hp hnh).mono ?_
        rintro e w2 ⟨rfl, m2⟩
        go_wp2_with fail
        go_ret
        exact ⟨retI HE.out.symm, hM.trans m2⟩
      · have HE := Lib.hid (show firstP bigM z3 n3 n3 = firstP bigM z3 n3 (n3 - (k + 1)) by rw [hS.out]; exact firstP_go hlt (by rw [← hx.out, hpx]; exact decide_eq_false hp))
        go_wp2_with fail
        refine (bigClosureFalse ah nh ch _ (by omega) hnh).mono ?_
        rintro e w2 ⟨rfl, m2⟩
        go_wp2_with fail
        go_roundw
        case rel => exact ⟨rfl, k + 1, by omega, by go_num, HE.out, hM.trans m2⟩
        case measure => simp [intOf]; omega
    · obtain rfl : n3 = k := by omega
      go_wp2_with fail
      go_ret
      exact ⟨retI (by rw [hS.out, Nat.sub_self]; rfl), hM⟩

set_option maxRecDepth 100000 in
set_option maxHeartbeats 4000000 in
theorem areMsgs (a3 : Option Addr) (n3 c3 B : Nat) (z3 : List TMessage) (w : World) (h3 : HasMessage w B a3 n3 z3) (hB : B ≤ w.heap.size) (hn3 : szMessage z3 n3 ≤ 1048576) :
    Calls Try.prog 81 #[.slice a3 n3 c3] w fun e w' => e = .returned (.bool (decide ((n3 : Int) ≤ 20) && !(longB z3 n3))) ∧ Mk0 w w' := by
  have HC : Calls Try.prog 105 #[.slice a3 n3 c3, .func (.func 106) #[] #[]] w fun e w' => e = .returned (.bool (longB z3 n3)) ∧ Mk0 w w' := by
    go_enter Try.func105, Try.ntmps105
    go_wp2_with fail
    refine (indexBig a3 n3 c3 B z3 _ h3 hB hn3).mono ?_
    rintro e w2 ⟨rfl, m2⟩
    go_wp2_with fail
    go_ret
    exact ⟨rfl, m2⟩
  by_cases hl : (n3 : Int) ≤ 20
  · have HL := Lib.hid (show decide ((n3 : Int) ≤ 20) = true from decide_eq_true hl)
    go_enter Try.func81, Try.ntmps81
    go_wp2_with fail
    refine HC.mono ?_
    rintro e w2 ⟨rfl, m2⟩
    cases hb : longB z3 n3
    · have HB := Lib.hid hb
      go_wp2_with fail
      go_ret
      exact ⟨retB (by rw [HL.out, HB.out]; rfl), m2⟩
    · have HB := Lib.hid hb
      go_wp2_with fail
      go_ret
      exact ⟨retB (by rw [HL.out, HB.out]; rfl), m2⟩
  · have HL := Lib.hid (show decide ((n3 : Int) ≤ 20) = false from decide_eq_false hl)
    replace hl : (20 : Int) < (n3 : Int) := by omega
    go_enter Try.func81, Try.ntmps81
    go_wp2_with fail
    go_ret
    exact ⟨retB (by rw [HL.out]; rfl), Mk.refl _ _ _⟩

set_option maxRecDepth 100000 in
set_option maxHeartbeats 4000000 in
theorem areEnds (p q : Int) (w : World) : Calls Try.prog 80 #[.int .i64 p, .int .i64 q] w fun e w' => e = .returned (.bool (inB p 0 7 && (inB q 0 7 && !(p == q)))) ∧ w = w' := by
  go_enter Try.func80, Try.ntmps80
  go_wp2_with fail
  refine (implIn p 0 7 _).mono ?_
  rintro e w' ⟨he, rfl⟩
  cases h1 : inB p 0 7
  · rw [h1] at he
    subst he
    go_wp2_with fail
    go_ret
    exact ⟨retB (by rw [h1]; rfl), rfl⟩
  · rw [h1] at he
    subst he
    go_wp2_with fail
    refine (implIn q 0 7 _).mono ?_
    rintro e w' ⟨he, rfl⟩
    cases h2 : inB q 0 7
    · rw [h2] at he
      subst he
      go_wp2_with fail
      go_ret
      exact ⟨retB (by rw [h1, h2]; rfl), rfl⟩
    · rw [h2] at he
      subst he
      cases h3 : (p == q)
      · have h4 : (p != q) = true := by simp only [bne, h3]; rfl
        go_wp2_with fail
        go_ret
        exact ⟨retB (by rw [h1, h2, h3]; rfl), rfl⟩
      · have h4 : (p != q) = false := by simp only [bne, h3]; rfl
        go_wp2_with fail
        go_ret
        exact ⟨retB (by rw [h1, h2, h3]; rfl), rfl⟩

set_option maxRecDepth 100000 in
set_option maxHeartbeats 4000000 in
theorem implVIn (x0 x1 x2 : Int) (a3 : Option Addr) (n3 c3 B : Nat) (z3 : List TMessage) (w : World) (h3 : HasMessage w B a3 n3 z3) (hB : B ≤ w.heap.size) (hn3 : szMessage z3 n3 ≤ 1048576) :
    Calls Try.prog 42 #[.agg #[.int .i64 x0, .int .i64 x1, .int .i64 x2, .slice a3 n3 c3]] w fun e w' => e = .returned (.bool (vInB x0 x1 x2 n3 z3)) ∧ Mk0 w w' := by
  have M0 := Mk.alloc w (Obj.cells #[Value.int .i64 x0, Value.int .i64 x1, Value.int .i64 x2, Value.slice a3 n3 c3] 64)
  have u0 : (w.alloc (Obj.cells #[Value.int .i64 x0, Value.int .i64 x1, Value.int .i64 x2, Value.slice a3 n3 c3] 64)).cell? ⟨w.heap.size, 0, none⟩ = some (.int .i64 x0) := by simp [go_sem]
  have u1 : (w.alloc (Obj.cells #[Value.int .i64 x0, Value.int .i64 x1, Value.int .i64 x2, Value.slice a3 n3 c3] 64)).cell? ⟨w.heap.size, 1, none⟩ = some (.int .i64 x1) := by simp [go_sem]
  have u2 : (w.alloc (Obj.cells #[Value.int .i64 x0, Value.int .i64 x1, Value.int .i64 x2, Value.slice a3 n3 c3] 64)).cell? ⟨w.heap.size, 2, none⟩ = some (.int .i64 x2) := by simp [go_sem]
  have u3 : (w.alloc (Obj.cells #[Value.int .i64 x0, Value.int .i64 x1, Value.int .i64 x2, Value.slice a3 n3 c3] 64)).cell? ⟨w.heap.size, 3, none⟩ = some (.slice a3 n3 c3) := by simp [go_sem]
  have HV := Lib.hid (show vInB x0 x1 x2 n3 z3 = ((inB x1 0 7 && (inB x0 0 7 && !(x1 == x0))) && ((x2 == (n3 : Int)) && (decide ((n3 : Int) ≤ 20) && !(longB z3 n3)))) by unfold vInB; simp only [Bool.and_assoc])
  go_enter Try.func42, Try.ntmps42
  go_wp2_with fail
  refine (areEnds x1 x0 _).mono ?_
  rintro e w' ⟨he, rfl⟩
  cases h1 : (inB x1 0 7 && (inB x0 0 7 && !(x1 == x0)))
  · rw [h1] at he
    subst he
    have H1 := Lib.hid h1
    clear h1
    go_wp2_with fail
    go_ret
    exact ⟨retB (by rw [HV.out, H1.out]; rfl), M0⟩
  · rw [h1] at he
    subst he
    have H1 := Lib.hid h1
    clear h1
    cases h2 : (x2 == (n3 : Int))
    · have H2 := Lib.hid h2
      go_wp2_with fail
      go_ret
      exact ⟨retB (by rw [HV.out, H1.out, H2.out]; rfl), M0⟩
    · have H2 := Lib.hid h2
      go_wp2_with fail
      refine (areMsgs a3 n3 c3 B z3 _ (h3.mk M0 hB (.inr (Nat.le_refl _))) (Nat.le_trans hB M0.size) hn3).mono ?_
      rintro e w2 ⟨rfl, m2⟩
      go_wp2_with fail
      go_ret
      exact ⟨retB (by rw [HV.out, H1.out, H2.out]; rfl), M0.trans m2⟩

set_option maxRecDepth 100000 in
set_option maxHeartbeats 4000000 in
theorem specVIn (x0 x1 x2 : Int) (a3 : Option Addr) (n3 c3 B : Nat) (z3 : List TMessage) (w : World) (h3 : HasMessage w B a3 n3 z3) (hB : B ≤ w.heap.size) (hn3 : szMessage z3 n3 ≤ 1048576) :
    Calls Try.prog 40 #[.agg #[.int .i64 x0, .int .i64 x1, .int .i64 x2, .slice a3 n3 c3]] w fun e w' => e = .returned (.bool (vInB x0 x1 x2 n3 z3)) ∧ Mk0 w w' := by
  have M0 := Mk.alloc w (Obj.cells #[Value.int .i64 x0, Value.int .i64 x1, Value.int .i64 x2, Value.slice a3 n3 c3] 64)
  have hn0 : n3 ≤ 1048576 := Nat.le_trans (szMessage_n z3 n3) hn3
  have u0 : (w.alloc (Obj.cells #[Value.int .i64 x0, Value.int .i64 x1, Value.int .i64 x2, Value.slice a3 n3 c3] 64)).cell? ⟨w.heap.size, 0, none⟩ = some (.int .i64 x0) := by simp [go_sem]
  have u1 : (w.alloc (Obj.cells #[Value.int .i64 x0, Value.int .i64 x1, Value.int .i64 x2, Value.slice a3 n3 c3] 64)).cell? ⟨w.heap.size, 1, none⟩ = some (.int .i64 x1) := by simp [go_sem]
  have u2 : (w.alloc (Obj.cells #[Value.int .i64 x0, Value.int .i64 x1, Value.int .i64 x2, Value.slice a3 n3 c3] 64)).cell? ⟨w.heap.size, 2, none⟩ = some (.int .i64 x2) := by simp [go_sem]
  have u3 : (w.alloc (Obj.cells #[Value.int .i64 x0, Value.int .i64 x1, Value.int .i64 x2, Value.slice a3 n3 c3] 64)).cell? ⟨w.heap.size, 3, none⟩ = some (.slice a3 n3 c3) := by simp [go_sem]
  have IH := Lib.hid (fun (w' : World) (m : Mk0 (w.alloc (Obj.cells #[Value.int .i64 x0, Value.int .i64 x1, Value.int .i64 x2, Value.slice a3 n3 c3] 64)) w') => And.intro (m.cellAt u0) (And.intro (m.cellAt u1) (And.intro (m.cellAt u2) (m.cellAt u3))))
  clear u0 u1 u2 u3
  go_enter Try.func40, Try.ntmps40
  go_wp2_with fail
  go_loopw [2, 3] (fun r i wr => r = .bool false ∧ ∃ k : Nat, k ≤ n3 ∧ i = .int .i64 k ∧ Hid (firstP bigM z3 n3 n3 = firstP bigM z3 n3 (n3 - k)) ∧ Mk0 (w.alloc (Obj.cells #[Value.int .i64 x0, Value.int .i64 x1, Value.int .i64 x2, Value.slice a3 n3 c3] 64)) wr) (fun _ i _ => n3 - (intOf i).toNat)
  case atStart => exact ⟨rfl, 0, Nat.zero_le _, rfl, rfl, Mk.refl _ _ _⟩
  case round =>
    obtain ⟨rfl, k, hk, rfl, hS, hM⟩ := hrel
    obtain ⟨u0, u1, u2, u3⟩ := IH.out _ hM
    by_cases hlt : k < n3
    · obtain ⟨b, off, x, rfl, hb, hx, ah, nh, ch, d0, r0, m0, t0, z0'⟩ := HasMessage.at _ _ _ _ _ _ (h3.mk (M0.trans hM) hB (.inr (Nat.le_refl _))) hlt
      have hnh : nh ≤ 1048576 := by have HS := szMessage_at z3 hlt; unfold seMessage at HS; rw [← hx.out, r0.1] at HS; omega
      have hpx : bigM x = decide (40 < nh) := by unfold bigM; rw [r0.1]
      by_cases hp : 40 < nh
      · have HE := Lib.hid (long_yes (show firstP bigM z3 n3 n3 = (k : Int) by rw [hS.out]; exact firstP_stop hlt (by rw [← hx.out, hpx]; exact decide_eq_true hp)))
        have hc' : (40 : Int) < (nh : Int) := by omega
        go_wp2_with fail
        go_ret
        exact ⟨retB (by unfold vInB; simp [HE.out]), M0.trans hM⟩
      · have HE := Lib.hid (show firstP bigM z3 n3 n3 = firstP bigM z3 n3 (n3 - (k + 1)) by rw [hS.out]; exact firstP_go hlt (by rw [← hx.out, hpx]; exact decide_eq_false hp))
        have hc' : (nh : Int) ≤ 40 := by omega
        go_wp2_with fail
        go_roundw
        case rel => exact ⟨rfl, k + 1, by omega, by go_num, HE.out, hM⟩
        case measure => simp [intOf]; omega
    · obtain rfl : n3 = k := by omega
      have HE := Lib.hid (long_no (show firstP bigM z3 n3 n3 = firstP bigM z3 n3 0 by rw [hS.out, Nat.sub_self]))
      clear hS hlt hk
      go_wp2_with fail
      refine (specIn x0 0 7 _).mono ?_
      rintro e w' ⟨he, rfl⟩
      cases h1 : inB x0 0 7
      · rw [h1] at he
        subst he
        have H1 := Lib.hid h1
        clear h1
        go_wp2_with fail
        go_ret
        exact ⟨retB (by unfold vInB; simp [H1.out]), M0.trans hM⟩
      · rw [h1] at he
        subst he
        have H1 := Lib.hid h1
        clear h1
        go_wp2_with fail
        refine (specIn x1 0 7 _).mono ?_
        rintro e w' ⟨he, rfl⟩
        cases h2 : inB x1 0 7
        · rw [h2] at he
          subst he
          have H2 := Lib.hid h2
          clear h2
          go_wp2_with fail
          go_ret
          exact ⟨retB (by unfold vInB; simp [H2.out]), M0.trans hM⟩
        · rw [h2] at he
          subst he
          have H2 := Lib.hid h2
          clear h2
          cases h4 : (x1 == x0)
          · have h4' : (x0 != x1) = true := by simp only [bne_iff_ne, beq_eq_false_iff_ne] at h4 ⊢; exact fun e => h4 e.symm
            have H4 := Lib.hid h4
            clear h4
            cases h5 : (x2 == (n3 : Int))
            · have H5 := Lib.hid h5
              go_wp2_with fail
              go_ret
              exact ⟨retB (by unfold vInB; simp [H5.out]), M0.trans hM⟩
            · obtain rfl : x2 = (n3 : Int) := by simpa using h5
              clear h5
              by_cases h6 : (n3 : Int) ≤ 20
              · have H6 := Lib.hid (show decide ((n3 : Int) ≤ 20) = true from decide_eq_true h6)
                go_wp2_with fail
                go_ret
                exact ⟨retB (by unfold vInB; rw [H1.out, H2.out, H4.out, H6.out, HE.out]; simp), M0.trans hM⟩
              · have H6 := Lib.hid (show decide ((n3 : Int) ≤ 20) = false from decide_eq_false h6)
                replace h6 : (20 : Int) < (n3 : Int) := by omega
                go_wp2_with fail
                go_ret
                exact ⟨retB (by unfold vInB; rw [H6.out]; simp), M0.trans hM⟩
          · obtain rfl : x0 = x1 := by have h := h4; simp only [beq_iff_eq] at h; exact h.symm
            have H4 := Lib.hid h4
            clear h4
            go_wp2_with fail
            go_ret
            exact ⟨retB (by unfold vInB; rw [H4.out]; simp), M0.trans hM⟩

end Go.Proofs.Ytbjfcjjfhnjaiaa
