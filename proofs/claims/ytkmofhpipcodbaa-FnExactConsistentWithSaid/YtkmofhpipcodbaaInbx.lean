
/- FindInbox, ValidInbox, EqualInboxes of both sides. -/
import Derived.Test.YtkmofhpipcodbaaNInbox
import Derived.Test.YtkmofhpipcodbaaOMessage
import Derived.Test.YtkmofhpipcodbaaSameBy
import Derived.Test.YtkmofhpipcodbaaEqPaths
import Derived.Test.YtkmofhpipcodbaaUpd
import Derived.Test.YtkmofhpipcodbaaInB
import Derived.Test.YtkmofhpipcodbaaWk
import Derived.Test.YtkmofhpipcodbaaRet
import Derived.Laws.EntriesVeiled
namespace Go.Proofs.Ytkmofhpipcodbaa
open Go.ChangeShapes Go.WideShapes Go.ChangeAt Go.RowKit
set_option linter.unusedVariables false
def isBox (at_ from_ : Int) (x : TInbox) : Bool := (x.as_ == at_) && (x.src == from_)
def bigM (x : TMessage) : Bool := decide (40 < x.data.length)
def longB (ms : List TMessage) (n : Nat) : Bool := decide (0 ≤ firstP bigM ms n n)
def vInB (x0 x1 x2 : Int) (n3 : Nat) (z3 : List TMessage) : Bool := inB x1 0 7 && (inB x0 0 7 && (!(x1 == x0) && ((x2 == (n3 : Int)) && (decide ((n3 : Int) ≤ 20) && !(longB z3 n3)))))
def eqM (x y : TMessage) : Bool := eqB x.data y.data
def eqInB (x0 x1 x2 y0 y1 y2 : Int) (b : Bool) : Bool := (x0 == y0) && ((x1 == y1) && ((x2 == y2) && b))
theorem long_no {ps : List TMessage} {n : Nat} (h : firstP bigM ps n n = firstP bigM ps n 0) : longB ps n = false := by unfold longB; rw [h]; rfl
theorem long_yes {ps : List TMessage} {n k : Nat} (h : firstP bigM ps n n = (k : Int)) : longB ps n = true := by unfold longB; rw [h]; exact decide_eq_true (by omega)
theorem fitM {zs : List TMessage} {k : Nat} (hf : ∀ x ∈ zs, TMessage.fits x) (hk : k < zs.length) : ∀ y ∈ (zs.getD k default).data, (Lit.int .u8 y).wf = true := by
  rw [List.getD_eq_getElem?_getD, List.getElem?_eq_getElem hk]
  exact hf _ (List.getElem_mem hk)
set_option maxRecDepth 100000 in
set_option maxHeartbeats 4000000 in
theorem bigClosureTrue (ah : Option Addr) (nh ch : Nat) (w : World) (hc : 40 < nh) (hn : nh ≤ 1048576) :
    Calls Try.prog 134 #[.agg #[.slice ah nh ch]] w fun e w' => e = .returned (.bool true) ∧ Mk0 w w' := by
  have hc' : (40 : Int) < (nh : Int) := by omega
  go_enter Try.func134, Try.ntmps134
  go_wp2_with fail
  go_ret
  exact ⟨rfl, Mk.alloc _ _⟩

set_option maxRecDepth 100000 in
set_option maxHeartbeats 4000000 in
theorem bigClosureFalse (ah : Option Addr) (nh ch : Nat) (w : World) (hc : nh ≤ 40) (hn : nh ≤ 1048576) :
    Calls Try.prog 134 #[.agg #[.slice ah nh ch]] w fun e w' => e = .returned (.bool false) ∧ Mk0 w w' := by
  have hc' : (nh : Int) ≤ 40 := by omega
  go_enter Try.func134, Try.ntmps134
  go_wp2_with fail
  go_ret
  exact ⟨retB (decide_eq_false (by omega)), Mk.alloc _ _⟩

set_option maxRecDepth 100000 in
set_option maxHeartbeats 4000000 in
theorem indexBig (a3 : Option Addr) (n3 c3 B : Nat) (z3 : List TMessage) (w : World) (h3 : HasMessage w B a3 n3 z3) (hB : B ≤ w.heap.size) (hn3 : szMessage z3 n3 ≤ 1048576) :
    Calls Try.prog 149 #[.slice a3 n3 c3, .func (.func 134) #[] #[]] w fun e w' => e = .returned (.int .i64 (firstP bigM z3 n3 n3)) ∧ Mk0 w w' := by
  have hn0 : n3 ≤ 1048576 := Nat.le_trans (szMessage_n z3 n3) hn3
  go_enter Try.func149, Try.ntmps149
  go_wp2_with fail
  go_loopw [4, 8] (fun r i wr => r = .int .i64 0 ∧ ∃ k : Nat, k ≤ n3 ∧ i = .int .i64 k ∧ Hid (firstP bigM z3 n3 n3 = firstP bigM z3 n3 (n3 - k)) ∧ Mk0 w wr) (fun _ i _ => n3 - (intOf i).toNat)
  case atStart => exact ⟨rfl, 0, Nat.zero_le _, rfl, rfl, Mk.refl _ _ _⟩
  case round =>
    obtain ⟨rfl, k, hk, rfl, hS, hM⟩ := hrel
    by_cases hlt : k < n3
    · obtain ⟨b, off, x, rfl, hb, hx, ah, nh, ch, d0, r0, m0, t0, z0'⟩ := HasMessage.at _ _ _ _ _ _ (h3.mk hM hB (.inr (Nat.le_refl _))) hlt
      have hnh : nh ≤ 1048576 := by have HS := szMessage_at z3 hlt; unfold seMessage at HS; rw [← hx.out, r0.1] at HS; omega
      have hen : (callFunc 134 #[.agg #[.slice ah nh ch]]).run Try.prog wr = .ok (.enter 134 #[.agg #[.slice ah nh ch]]) wr := by kernel_rfl
      have hpx : bigM x = decide (40 < nh) := by unfold bigM; rw [r0.1]
      by_cases hp : 40 < nh
      · have HE := Lib.hid (show firstP bigM z3 n3 n3 = (k : Int) by rw [hS.out]; exact firstP_stop hlt (by rw [← hx.out, hpx]; exact decide_eq_true hp))
        go_wp2_with fail
        refine (bigClosureTrue ah nh ch _ hp hnh).mono ?_
        rintro e w2 ⟨rfl, m2⟩
        go_wp2_with fail
        go_ret
        exact ⟨retI HE.out.symm, hM.trans m2⟩
      · have HE := Lib.hid (show firstP bigM z3 n3 n3 = firstP bigM z3 n3 (n3 - (k + 1)) by rw [hS.out]; exact firstP_go hlt (by rw [← hx.out, hpx]; exact decide_eq_false hp))
        go_wp2_with fail
        refine (bigClosureFalse ah nh ch _ (by omega) hnh).mono ?_
        rintro e w2 ⟨rfl, m2⟩
        go_wp2_with fail
        go_roundw
        case rel => exact ⟨rfl, k + 1, by omega, by go_num, HE.out, hM.trans m2⟩
        case measure => simp [intOf]; omega
    · obtain rfl : n3 = k := by omega
      go_wp2_with fail
      go_ret
      exact ⟨retI (by rw [hS.out, Nat.sub_self]; rfl), hM⟩

set_option maxRecDepth 100000 in
set_option maxHeartbeats 4000000 in
theorem areMsgs (a3 : Option Addr) (n3 c3 B : Nat) (z3 : List TMessage) (w : World) (h3 : HasMessage w B a3 n3 z3) (hB : B ≤ w.heap.size) (hn3 : szMessage z3 n3 ≤ 1048576) :
    Calls Try.prog 91 #[.slice a3 n3 c3] w fun e w' => e = .returned (.bool (decide ((n3 : Int) ≤ 20) && !(longB z3 n3))) ∧ Mk0 w w' := by
  have HC : Calls Try.prog 133 #[.slice a3 n3 c3, .func (.func 134) #[] #[]] w fun e w' => e = .returned (.bool (longB z3 n3)) ∧ Mk0 w w' := by
    go_enter Try.func133, Try.ntmps133
    go_wp2_with fail
    refine (indexBig a3 n3 c3 B z3 _ h3 hB hn3).mono ?_
    rintro e w2 ⟨rfl, m2⟩
    go_wp2_with fail
    go_ret
    exact ⟨rfl, m2⟩
  by_cases hl : (n3 : Int) ≤ 20
  · have HL := Lib.hid (show decide ((n3 : Int) ≤ 20) = true from decide_eq_true hl)
    go_enter Try.func91, Try.ntmps91
    go_wp2_with fail
    refine HC.mono ?_
    rintro e w2 ⟨rfl, m2⟩
    cases hb : longB z3 n3
    · have HB := Lib.hid hb
      go_wp2_with fail
      go_ret
      exact ⟨retB (by rw [HL.out, HB.out]; rfl), m2⟩
    · have HB := Lib.hid hb
      go_wp2_with fail
      go_ret
      exact ⟨retB (by rw [HL.out, HB.out]; rfl), m2⟩
  · have HL := Lib.hid (show decide ((n3 : Int) ≤ 20) = false from decide_eq_false hl)
    replace hl : (20 : Int) < (n3 : Int) := by omega
    go_enter Try.func91, Try.ntmps91
    go_wp2_with fail
    go_ret
    exact ⟨retB (by rw [HL.out]; rfl), Mk.refl _ _ _⟩

set_option maxRecDepth 100000 in
set_option maxHeartbeats 4000000 in
theorem areEnds (p q : Int) (w : World) : Calls Try.prog 89 #[.int .i64 p, .int .i64 q] w fun e w' => e = .returned (.bool (inB p 0 7 && (inB q 0 7 && !(p == q)))) ∧ w = w' := by
  go_enter Try.func89, Try.ntmps89
  go_wp2_with fail
  refine (implIn p 0 7 _).mono ?_
  rintro e w' ⟨he, rfl⟩
  cases h1 : inB p 0 7
  · rw [h1] at he
    subst he
    go_wp2_with fail
    go_ret
    exact ⟨retB (by rw [h1]; rfl), rfl⟩
  · rw [h1] at he
    subst he
    go_wp2_with fail
    refine (implIn q 0 7 _).mono ?_
    rintro e w' ⟨he, rfl⟩
    cases h2 : inB q 0 7
    · rw [h2] at he
      subst he
      go_wp2_with fail
      go_ret
      exact ⟨retB (by rw [h1, h2]; rfl), rfl⟩
    · rw [h2] at he
      subst he
      cases h3 : (p == q)
      · have h4 : (p != q) = true := by simp only [bne, h3]; rfl
        go_wp2_with fail
        go_ret
        exact ⟨retB (by rw [h1, h2, h3]; rfl), rfl⟩
      · have h4 : (p != q) = false := by simp only [bne, h3]; rfl
        go_wp2_with fail
        go_ret
        exact ⟨retB (by rw [h1, h2, h3]; rfl), rfl⟩

end Go.Proofs.Ytkmofhpipcodbaa
