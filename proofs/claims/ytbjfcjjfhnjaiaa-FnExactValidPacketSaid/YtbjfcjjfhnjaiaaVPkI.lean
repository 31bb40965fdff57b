
/- ValidPacket of both sides. -/
import Derived.Test.YtbjfcjjfhnjaiaaPktL
import Derived.Test.YtbjfcjjfhnjaiaaEncPath
import Derived.Test.YtbjfcjjfhnjaiaaInB
import Derived.Test.YtbjfcjjfhnjaiaaUpd
import Derived.Test.YtbjfcjjfhnjaiaaRet
import Derived.Laws.EntriesVeiled
namespace Go.Proofs.Ytbjfcjjfhnjaiaa
open Go.ChangeShapes Go.WideShapes Go.ChangeAt Go.RowKit
set_option linter.unusedVariables false
def noHops (x : TPathPart) : Bool := x.hops.length == 0
def emptyB (ps : List TPathPart) (n : Nat) : Bool := decide (0 ≤ firstP noHops ps n n)
def hopB (ps : List TPathPart) (n : Nat) (pi hi : Int) : Bool := (pkHop ps n pi hi).isSome
def restB (x1 x2 x7 x8 : Int) (n9 : Nat) : Bool := inB x1 0 7 && (inB x2 0 7 && (inB x7 0 100000 && (inB x8 0 100000 && decide ((n9 : Int) ≤ 40))))
def vpkB (x0 x1 x2 x4 x5 x6 x7 x8 : Int) (n3 : Nat) (z3 : List TPathPart) (n9 : Nat) : Bool :=
  inB x0 1 3 && (encPathB z3 n3 && (!(emptyB z3 n3) && (hopB z3 n3 x4 x5 && (inB x6 0 2147483646 && restB x1 x2 x7 x8 n9))))
set_option maxRecDepth 100000 in
set_option maxHeartbeats 4000000 in
theorem emptyClosure (x0 x1 x2 : Int) (ah : Option Addr) (nh ch : Nat) (w : World) (hn : nh ≤ 1048576) :
    Calls Try.prog 99 #[.agg #[.int .i64 x0, .int .i64 x1, .int .i64 x2, .slice ah nh ch]] w fun e w' => e = .returned (.bool ((nh : Int) == 0)) ∧ Mk0 w w' := by
  go_enter Try.func99, Try.ntmps99
  go_wp2_with fail
  go_ret
  exact ⟨rfl, Mk.alloc _ _⟩

set_option maxRecDepth 100000 in
set_option maxHeartbeats 4000000 in
theorem indexEmpty (a : Option Addr) (n c B : Nat) (zs : List TPathPart) (w : World) (h : HasPathPart w B a n zs) (hB : B ≤ w.heap.size) (hn : szPathPart zs n ≤ 1048576) :
    Calls Try.prog 119 #[.slice a n c, .func (.func 99) #[] #[]] w fun e w' => e = .returned (.int .i64 (firstP noHops zs n n)) ∧ Mk0 w w' := by
  have hn0 : n ≤ 1048576 := Nat.le_trans (szPathPart_n zs n) hn
  go_enter Try.func119, Try.ntmps119
  go_wp2_with fail
  go_loopw [4, 8] (fun r i wr => r = .int .i64 0 ∧ ∃ k : Nat, k ≤ n ∧ i = .int .i64 k ∧ Hid (firstP noHops zs n n = firstP noHops zs n (n - k)) ∧ Mk0 w wr) (fun _ i _ => n - (intOf i).toNat)
  case atStart => exact ⟨rfl, 0, Nat.zero_le _, rfl, rfl, Mk.refl _ _ _⟩
  case round =>
    obtain ⟨rfl, k, hk, rfl, hS, hM⟩ := hrel
    by_cases hlt : k < n
    · obtain ⟨b, off, x, rfl, hb, hx, ah, nh, ch, d0, d1, d2, d3, r3, m3, t3, z3'⟩ := HasPathPart.at _ _ _ _ _ _ (h.mk hM hB (.inr (Nat.le_refl _))) hlt
      have hnh : nh ≤ 1048576 := by have HS := szPathPart_at zs hlt; unfold sePathPart at HS; rw [← hx.out, r3.1] at HS; omega
      have hen : (callFunc 99 #[.agg #[.int .i64 x.kind, .int .i64 x.ts, .int .i64 x.beta, .slice ah nh ch]]).run Try.prog wr = .ok (.enter 99 #[.agg #[.int .i64 x.kind, .int .i64 x.ts, .int .i64 x.beta, .slice ah nh ch]]) wr := by kernel_rfl
      have hpx : noHops x = (nh == 0) := by unfold noHops; rw [r3.1]
      cases hp : (nh == 0)
      · have HE := Lib.hid (show firstP noHops zs n n = firstP noHops zs n (n - (k + 1)) by rw [hS.out]; exact firstP_go hlt (by rw [← hx.out, hpx, hp]))
        have HP := Lib.hid (show ((nh : Int) == 0) = false by simp only [beq_eq_false_iff_ne] at hp ⊢; omega)
        clear hp hpx
        go_wp2_with fail
        refine (emptyClosure _ _ _ ah nh ch _ hnh).mono ?_
        rintro e w2 ⟨he, m2⟩
        rw [HP.out] at he
        subst he
        go_wp2_with fail
        go_roundw
        case rel => exact ⟨rfl, k + 1, by omega, by go_num, HE.out, hM.trans m2⟩
        case measure => simp [intOf]; omega
      · have HE := Lib.hid (show firstP noHops zs n n = (k : Int) by rw [hS.out]; exact firstP_stop hlt (by rw [← hx.out, hpx, hp]))
        have HP := Lib.hid (show ((nh : Int) == 0) = true by simp only [beq_iff_eq] at hp ⊢; omega)
        clear hp hpx
        go_wp2_with fail
        refine (emptyClosure _ _ _ ah nh ch _ hnh).mono ?_
        rintro e w2 ⟨he, m2⟩
        rw [HP.out] at he
        subst he
        go_wp2_with fail
        go_ret
        exact ⟨retI HE.out.symm, hM.trans m2⟩
    · obtain rfl : n = k := by omega
      go_wp2_with fail
      go_ret
      exact ⟨retI (by rw [hS.out, Nat.sub_self]; rfl), hM⟩

set_option maxRecDepth 100000 in
set_option maxHeartbeats 4000000 in
theorem implEmpty (a : Option Addr) (n c B : Nat) (zs : List TPathPart) (w : World) (h : HasPathPart w B a n zs) (hB : B ≤ w.heap.size) (hn : szPathPart zs n ≤ 1048576) :
    Calls Try.prog 63 #[.agg #[.slice a n c]] w fun e w' => e = .returned (.bool (emptyB zs n)) ∧ Mk0 w w' := by
  have M0 := Mk.alloc w (Obj.cells #[Value.slice a n c] 30)
  have HC : ∀ W, Mk0 w W → Calls Try.prog 98 #[.slice a n c, .func (.func 99) #[] #[]] W fun e w' => e = .returned (.bool (emptyB zs n)) ∧ Mk0 W w' := fun W MW => by
    go_enter Try.func98, Try.ntmps98
    go_wp2_with fail
    refine (indexEmpty a n c B zs _ (h.mk MW hB (.inr (Nat.le_refl _))) (Nat.le_trans hB MW.size) hn).mono ?_
    rintro e w2 ⟨rfl, m2⟩
    go_wp2_with fail
    go_ret
    exact ⟨rfl, m2⟩
  go_enter Try.func63, Try.ntmps63
  go_wp2_with fail
  refine (HC _ M0).mono ?_
  rintro e w2 ⟨rfl, m2⟩
  go_wp2_with fail
  go_ret
  exact ⟨rfl, M0.trans m2⟩

set_option maxRecDepth 100000 in
set_option maxHeartbeats 4000000 in
theorem cHopAny (x0 x1 x2 x4 x5 x6 x7 x8 : Int) (a3 : Option Addr) (n3 c3 : Nat) (z3 : List TPathPart) (a9 : Option Addr) (n9 c9 B : Nat) (w : World) (h3 : HasPathPart w B a3 n3 z3) (hB : B ≤ w.heap.size) (hn3 : szPathPart z3 n3 ≤ 1048576) (q0 : Nat) (u3 : w.cell? ⟨q0, 3, none⟩ = some (.slice a3 n3 c3)) (u4 : w.cell? ⟨q0, 4, none⟩ = some (.int .i64 x4)) (u5 : w.cell? ⟨q0, 5, none⟩ = some (.int .i64 x5)) :
    Calls Try.prog 64 #[.pointer (some ⟨q0, 0, none⟩)] w fun e w' => (if hopB z3 n3 x4 x5 = true then ∃ pb po, e = .returned (.pointer (some ⟨pb, po, none⟩)) else e = .returned (.pointer none)) ∧ Mk0 w w' := by
  have hn : n3 ≤ 1048576 := Nat.le_trans (szPathPart_n z3 n3) hn3
  by_cases hA : 0 ≤ x4 ∧ x4 < (n3 : Int)
  · obtain ⟨k, rfl⟩ := Int.eq_ofNat_of_zero_le hA.1
    have hk : k < n3 := by have := hA.2; omega
    obtain ⟨b, off, x, rfl, hb, hx, ah, nh, ch, d0, d1, d2, d3, r3, m3, t3, z3'⟩ := HasPathPart.at _ _ _ _ _ _ h3 hk
    have hnh : nh ≤ 1048576 := by have HS := szPathPart_at z3 hk; unfold sePathPart at HS; rw [← hx.out, r3.1] at HS; omega
    by_cases hB' : 0 ≤ x5 ∧ x5 < (nh : Int)
    · obtain ⟨j, rfl⟩ := Int.eq_ofNat_of_zero_le hB'.1
      have hj : j < nh := by have := hB'.2; omega
      obtain ⟨bh, offh, q, rfl, hbh, hq, e0, e1, e2, e3, e4⟩ := HasHop.at _ _ _ _ _ _ r3 hj
      refine (cHopC q0 k j b off n3 c3 bh offh nh ch _ u3 u4 u5 d3 hn hk hj hnh).mono ?_
      rintro e w1 ⟨rfl, m1⟩
      refine ⟨?_, m1⟩
      rw [if_pos (by unfold hopB; rw [pkHop_yes hk (by rw [← hx.out]; exact r3.1) hj]; rfl)]
      exact ⟨_, _, rfl⟩
    · refine (cHopB q0 k b off n3 c3 x5 ah nh ch _ u3 u4 u5 d3 hn hk hB' hnh).mono ?_
      rintro e w1 ⟨rfl, m1⟩
      refine ⟨?_, m1⟩
      rw [if_neg (by unfold hopB; rw [pkHop_noB hk (by rw [← hx.out]; exact r3.1) hB']; decide)]
  · refine (cHopA q0 x4 x5 a3 n3 c3 _ u3 u4 u5 hn hA).mono ?_
    rintro e w1 ⟨rfl, m1⟩
    refine ⟨?_, m1⟩
    rw [if_neg (by unfold hopB; rw [pkHop_noA hA]; decide)]

set_option maxRecDepth 100000 in
set_option maxHeartbeats 4000000 in
theorem implVPk (x0 x1 x2 x4 x5 x6 x7 x8 : Int) (a3 : Option Addr) (n3 c3 : Nat) (z3 : List TPathPart) (a9 : Option Addr) (n9 c9 B : Nat) (w : World) (h3 : HasPathPart w B a3 n3 z3) (hB : B ≤ w.heap.size) (hn3 : szPathPart z3 n3 ≤ 1048576) :
    Calls Try.prog 22 #[.agg #[.int .i64 x0, .int .i64 x1, .int .i64 x2, .slice a3 n3 c3, .int .i64 x4, .int .i64 x5, .int .i64 x6, .int .i64 x7, .int .i64 x8, .slice a9 n9 c9]] w fun e w' => e = .returned (.bool (vpkB x0 x1 x2 x4 x5 x6 x7 x8 n3 z3 n9)) ∧ Mk0 w w' := by
  have M0 := Mk.alloc w (Obj.cells #[Value.int .i64 x0, Value.int .i64 x1, Value.int .i64 x2, Value.slice a3 n3 c3, Value.int .i64 x4, Value.int .i64 x5, Value.int .i64 x6, Value.int .i64 x7, Value.int .i64 x8, Value.slice a9 n9 c9] 40)
  have hn : n3 ≤ 1048576 := Nat.le_trans (szPathPart_n z3 n3) hn3
  have i3 : (n3 : Int) ≤ 1048576 := by omega
  have u0 : (w.alloc (Obj.cells #[Value.int .i64 x0, Value.int .i64 x1, Value.int .i64 x2, Value.slice a3 n3 c3, Value.int .i64 x4, Value.int .i64 x5, Value.int .i64 x6, Value.int .i64 x7, Value.int .i64 x8, Value.slice a9 n9 c9] 40)).cell? ⟨w.heap.size, 0, none⟩ = some (.int .i64 x0) := by simp [go_sem]
  have u1 : (w.alloc (Obj.cells #[Value.int .i64 x0, Value.int .i64 x1, Value.int .i64 x2, Value.slice a3 n3 c3, Value.int .i64 x4, Value.int .i64 x5, Value.int .i64 x6, Value.int .i64 x7, Value.int .i64 x8, Value.slice a9 n9 c9] 40)).cell? ⟨w.heap.size, 1, none⟩ = some (.int .i64 x1) := by simp [go_sem]
  have u2 : (w.alloc (Obj.cells #[Value.int .i64 x0, Value.int .i64 x1, Value.int .i64 x2, Value.slice a3 n3 c3, Value.int .i64 x4, Value.int .i64 x5, Value.int .i64 x6, Value.int .i64 x7, Value.int .i64 x8, Value.slice a9 n9 c9] 40)).cell? ⟨w.heap.size, 2, none⟩ = some (.int .i64 x2) := by simp [go_sem]
  have u3 : (w.alloc (Obj.cells #[Value.int .i64 x0, Value.int .i64 x1, Value.int .i64 x2, Value.slice a3 n3 c3, Value.int .i64 x4, Value.int .i64 x5, Value.int .i64 x6, Value.int .i64 x7, Value.int .i64 x8, Value.slice a9 n9 c9] 40)).cell? ⟨w.heap.size, 3, none⟩ = some (.slice a3 n3 c3) := by simp [go_sem]
  have u4 : (w.alloc (Obj.cells #[Value.int .i64 x0, Value.int .i64 x1, Value.int .i64 x2, Value.slice a3 n3 c3, Value.int .i64 x4, Value.int .i64 x5, Value.int .i64 x6, Value.int .i64 x7, Value.int .i64 x8, Value.slice a9 n9 c9] 40)).cell? ⟨w.heap.size, 4, none⟩ = some (.int .i64 x4) := by simp [go_sem]
  have u5 : (w.alloc (Obj.cells #[Value.int .i64 x0, Value.int .i64 x1, Value.int .i64 x2, Value.slice a3 n3 c3, Value.int .i64 x4, Value.int .i64 x5, Value.int .i64 x6, Value.int .i64 x7, Value.int .i64 x8, Value.slice a9 n9 c9] 40)).cell? ⟨w.heap.size, 5, none⟩ = some (.int .i64 x5) := by simp [go_sem]
  have u6 : (w.alloc (Obj.cells #[Value.int .i64 x0, Value.int .i64 x1, Value.int .i64 x2, Value.slice a3 n3 c3, Value.int .i64 x4, Value.int .i64 x5, Value.int .i64 x6, Value.int .i64 x7, Value.int .i64 x8, Value.slice a9 n9 c9] 40)).cell? ⟨w.heap.size, 6, none⟩ = some (.int .i64 x6) := by simp [go_sem]
  have u7 : (w.alloc (Obj.cells #[Value.int .i64 x0, Value.int .i64 x1, Value.int .i64 x2, Value.slice a3 n3 c3, Value.int .i64 x4, Value.int .i64 x5, Value.int .i64 x6, Value.int .i64 x7, Value.int .i64 x8, Value.slice a9 n9 c9] 40)).cell? ⟨w.heap.size, 7, none⟩ = some (.int .i64 x7) := by simp [go_sem]
  have u8 : (w.alloc (Obj.cells #[Value.int .i64 x0, Value.int .i64 x1, Value.int .i64 x2, Value.slice a3 n3 c3, Value.int .i64 x4, Value.int .i64 x5, Value.int .i64 x6, Value.int .i64 x7, Value.int .i64 x8, Value.slice a9 n9 c9] 40)).cell? ⟨w.heap.size, 8, none⟩ = some (.int .i64 x8) := by simp [go_sem]
  have u9 : (w.alloc (Obj.cells #[Value.int .i64 x0, Value.int .i64 x1, Value.int .i64 x2, Value.slice a3 n3 c3, Value.int .i64 x4, Value.int .i64 x5, Value.int .i64 x6, Value.int .i64 x7, Value.int .i64 x8, Value.slice a9 n9 c9] 40)).cell? ⟨w.heap.size, 9, none⟩ = some (.slice a9 n9 c9) := by simp [go_sem]
  go_enter Try.func22, Try.ntmps22
  go_wp2_with fail
  have MM := M0
  refine (implIn x0 1 3 _).mono ?_
  rintro e w' ⟨he, rfl⟩
  clear MM
  cases h1 : inB x0 1 3
  · rw [h1] at he
    subst he
    have H1 := Lib.hid h1
    clear h1
    go_wp2_with fail
    go_ret
    exact ⟨retB (by unfold vpkB restB; simp [H1.out]), M0⟩
  · rw [h1] at he
    subst he
    have H1 := Lib.hid h1
    clear h1
    go_wp2_with fail
    have MM := M0
    refine (implEncPath a3 n3 c3 B z3 _ (h3.mk MM hB (.inr (Nat.le_refl _))) (Nat.le_trans hB MM.size) hn3).mono ?_
    rintro e v2 ⟨he, m2⟩
    replace u0 := m2.cellAt u0
    replace u1 := m2.cellAt u1
    replace u2 := m2.cellAt u2
    replace u3 := m2.cellAt u3
    replace u4 := m2.cellAt u4
    replace u5 := m2.cellAt u5
    replace u6 := m2.cellAt u6
    replace u7 := m2.cellAt u7
    replace u8 := m2.cellAt u8
    replace u9 := m2.cellAt u9
    have M2 := M0.trans m2
    clear MM
    cases h2 : encPathB z3 n3
    · rw [h2] at he
      subst he
      have H2 := Lib.hid h2
      clear h2
      go_wp2_with fail
      go_ret
      exact ⟨retB (by unfold vpkB restB; simp [H1.out, H2.out]), M2⟩
    · rw [h2] at he
      subst he
      have H2 := Lib.hid h2
      clear h2
      go_wp2_with fail
      have MM := M2
      refine (implEmpty a3 n3 c3 B z3 _ (h3.mk MM hB (.inr (Nat.le_refl _))) (Nat.le_trans hB MM.size) hn3).mono ?_
      rintro e v3 ⟨he, m3⟩
      replace u0 := m3.cellAt u0
      replace u1 := m3.cellAt u1
      replace u2 := m3.cellAt u2
      replace u3 := m3.cellAt u3
      replace u4 := m3.cellAt u4
      replace u5 := m3.cellAt u5
      replace u6 := m3.cellAt u6
      replace u7 := m3.cellAt u7
      replace u8 := m3.cellAt u8
      replace u9 := m3.cellAt u9
      have M3 := M2.trans m3
      clear MM
      cases h3 : emptyB z3 n3
      · rw [h3] at he
        subst he
        have H3 := Lib.hid h3
        clear h3
        go_wp2_with fail
        have MM := M3
        refine (cHopAny x0 x1 x2 x4 x5 x6 x7 x8 a3 n3 c3 z3 a9 n9 c9 B _ (h3.mk MM hB (.inr (Nat.le_refl _))) (Nat.le_trans hB MM.size) hn3 w.heap.size u3 u4 u5).mono ?_
        rintro e v4 ⟨he, m4⟩
        replace u0 := m4.cellAt u0
        replace u1 := m4.cellAt u1
        replace u2 := m4.cellAt u2
        replace u3 := m4.cellAt u3
        replace u4 := m4.cellAt u4
        replace u5 := m4.cellAt u5
        replace u6 := m4.cellAt u6
        replace u7 := m4.cellAt u7
        replace u8 := m4.cellAt u8
        replace u9 := m4.cellAt u9
        have M4 := M3.trans m4
        clear MM
        cases h4 : hopB z3 n3 x4 x5
        · rw [if_neg (by rw [h4]; decide)] at he
          subst he
          have H4 := Lib.hid h4
          clear h4
          go_wp2_with fail
          go_ret
          exact ⟨retB (by unfold vpkB restB; simp [H1.out, H2.out, H3.out, H4.out]), M4⟩
        · rw [if_pos (by rw [h4])] at he
          obtain ⟨pb, po, rfl⟩ := he
          have H4 := Lib.hid h4
          clear h4
          go_wp2_with fail
          have MM := M4
          refine (implRes x6 _).mono ?_
          rintro e w' ⟨he, rfl⟩
          clear MM
          cases h5 : inB x6 0 2147483646
          · rw [h5] at he
            subst he
            have H5 := Lib.hid h5
            clear h5
            go_wp2_with fail
            go_ret
            exact ⟨retB (by unfold vpkB restB; simp [H1.out, H2.out, H3.out, H4.out, H5.out]), M4⟩
          · rw [h5] at he
            subst he
            have H5 := Lib.hid h5
            clear h5
            go_wp2_with fail
            have MM := M4
            refine (implIn x1 0 7 _).mono ?_
            rintro e w' ⟨he, rfl⟩
            clear MM
            cases h6 : inB x1 0 7
            · rw [h6] at he
              subst he
              have H6 := Lib.hid h6
              clear h6
              go_wp2_with fail
              go_ret
              exact ⟨retB (by unfold vpkB restB; simp [H1.out, H2.out, H3.out, H4.out, H5.out, H6.out]), M4⟩
            · rw [h6] at he
              subst he
              have H6 := Lib.hid h6
              clear h6
              go_wp2_with fail
              have MM := M4
              refine (implIn x2 0 7 _).mono ?_
              rintro e w' ⟨he, rfl⟩
              clear MM
              cases h7 : inB x2 0 7
              · rw [h7] at he
                subst he
                have H7 := Lib.hid h7
                clear h7
                go_wp2_with fail
                go_ret
                exact ⟨retB (by unfold vpkB restB; simp [H1.out, H2.out, H3.out, H4.out, H5.out, H6.out, H7.out]), M4⟩
              · rw [h7] at he
                subst he
                have H7 := Lib.hid h7
                clear h7
                go_wp2_with fail
                have MM := M4
                refine (implIn x7 0 100000 _).mono ?_
                rintro e w' ⟨he, rfl⟩
                clear MM
                cases h8 : inB x7 0 100000
                · rw [h8] at he
                  subst he
                  have H8 := Lib.hid h8
                  clear h8
                  go_wp2_with fail
                  go_ret
                  exact ⟨retB (by unfold vpkB restB; simp [H1.out, H2.out, H3.out, H4.out, H5.out, H6.out, H7.out, H8.out]), M4⟩
                · rw [h8] at he
                  subst he
                  have H8 := Lib.hid h8
                  clear h8
                  go_wp2_with fail
                  have MM := M4
                  refine (implIn x8 0 100000 _).mono ?_
                  rintro e w' ⟨he, rfl⟩
                  clear MM
                  cases h9 : inB x8 0 100000
                  · rw [h9] at he
                    subst he
                    have H9 := Lib.hid h9
                    clear h9
                    go_wp2_with fail
                    go_ret
                    exact ⟨retB (by unfold vpkB restB; simp [H1.out, H2.out, H3.out, H4.out, H5.out, H6.out, H7.out, H8.out, H9.out]), M4⟩
                  · rw [h9] at he
                    subst he
                    have H9 := Lib.hid h9
                    clear h9
                    go_wp2_with fail
                    cases h10 : decide ((n9 : Int) ≤ 40)
                    · have H10 := Lib.hid h10
                      replace h10 : (40 : Int) < (n9 : Int) := by simpa using h10
                      go_wp2_with fail
                      go_ret
                      exact ⟨retB (by unfold vpkB restB; rw [H1.out, H2.out, H3.out, H4.out, H5.out, H6.out, H7.out, H8.out, H9.out, H10.out]; rfl), M4⟩
                    · have H10 := Lib.hid h10
                      replace h10 : (n9 : Int) ≤ 40 := by simpa using h10
                      go_wp2_with fail
                      go_ret
                      exact ⟨retB (by unfold vpkB restB; rw [H1.out, H2.out, H3.out, H4.out, H5.out, H6.out, H7.out, H8.out, H9.out, H10.out]; rfl), M4⟩
      · rw [h3] at he
        subst he
        have H3 := Lib.hid h3
        clear h3
        go_wp2_with fail
        go_ret
        exact ⟨retB (by unfold vpkB restB; simp [H1.out, H2.out, H3.out]), M3⟩

end Go.Proofs.Ytbjfcjjfhnjaiaa
