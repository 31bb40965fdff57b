
/- ValidPacket of both sides. -/
import Derived.Test.YtpfjjfbheliinaaPktL
import Derived.Test.YtpfjjfbheliinaaEncPath
import Derived.Test.YtpfjjfbheliinaaInB
import Derived.Test.YtpfjjfbheliinaaUpd
import Derived.Test.YtpfjjfbheliinaaRet
import Derived.Laws.EntriesVeiled
import Derived.Test.YtpfjjfbheliinaaWk
namespace Go.Proofs.Ytpfjjfbheliinaa
open Go.ChangeShapes Go.WideShapes Go.ChangeAt Go.RowKit
set_option linter.unusedVariables false
def noHops (x : TPathPart) : Bool := x.hops.length == 0
def emptyB (ps : List TPathPart) (n : Nat) : Bool := decide (0 ≤ firstP noHops ps n n)
def hopB (ps : List TPathPart) (n : Nat) (pi hi : Int) : Bool := (pkHop ps n pi hi).isSome
def restB (x1 x2 x7 x8 : Int) (n9 : Nat) : Bool := inB x1 0 7 && (inB x2 0 7 && (inB x7 0 100000 && (inB x8 0 100000 && decide ((n9 : Int) ≤ 40))))
def vpkB (x0 x1 x2 x4 x5 x6 x7 x8 : Int) (n3 : Nat) (z3 : List TPathPart) (n9 : Nat) : Bool :=
  inB x0 1 3 && (encPathB z3 n3 && (!(emptyB z3 n3) && (hopB z3 n3 x4 x5 && (inB x6 0 2147483646 && restB x1 x2 x7 x8 n9))))
set_option maxRecDepth 100000 in
set_option maxHeartbeats 4000000 in
theorem emptyClosure (x0 x1 x2 : Int) (ah : Option Addr) (nh ch : Nat) (w : World) (hn : nh ≤ 1048576) :
    Calls Try.prog 177 #[.agg #[.int .i64 x0, .int .i64 x1, .int .i64 x2, .slice ah nh ch]] w fun e w' => e = .returned (.bool ((nh : Int) == 0)) ∧ Mk0 w w' := by
  go_enter Try.func177, Try.ntmps177
  go_wp2_with fail
  go_ret
  exact ⟨rfl, Mk.alloc _ _⟩

set_option maxRecDepth 100000 in
set_option maxHeartbeats 4000000 in
theorem indexEmpty (a : Option Addr) (n c B : Nat) (zs : List TPathPart) (w : World) (h : HasPathPart w B a n zs) (hB : B ≤ w.heap.size) (hn : szPathPart zs n ≤ 1048576) :
    Calls Try.prog 189 #[.slice a n c, .func (.func 177) #[] #[]] w fun e w' => e = .returned (.int .i64 (firstP noHops zs n n)) ∧ Mk0 w w' := by
  have hn0 : n ≤ 1048576 := Nat.le_trans (szPathPart_n zs n) hn
  go_enter Try.func189, Try.ntmps189
  go_wp2_with fail
  go_loopw [4, 8] (fun r i wr => r = .int .i64 0 ∧ ∃ k : Nat, k ≤ n ∧ i = .int .i64 k ∧ Hid (firstP noHops zs n n = firstP noHops zs n (n - k)) ∧ Mk0 w wr) (fun _ i _ => n - (intOf i).toNat)
  case atStart => exact ⟨rfl, 0, Nat.zero_le _, rfl, rfl, Mk.refl _ _ _⟩
  case round =>
    obtain ⟨rfl, k, hk, rfl, hS, hM⟩ := hrel
    by_cases hlt : k < n
    · obtain ⟨b, off, x, rfl, hb, hx, ah, nh, ch, d0, d1, d2, d3, r3, m3, t3, z3'⟩ := HasPathPart.at _ _ _ _ _ _ (h.mk hM hB (.inr (Nat.le_refl _))) hlt
      have hnh : nh ≤ 1048576 := by have HS := szPathPart_at zs hlt; unfold sePathPart at HS; rw [← hx.out, r3.1] at HS; omega
      have hen : (callFunc 177 #[.agg #[.int .i64 x.kind, .int .i64 x.ts, .int .i64 x.beta, .slice ah nh ch]]).run Try.prog wr = .ok (.enter 177 #[.agg #[.int .i64 x.kind, .int .i64 x.ts, .int .i64 x.beta, .slice ah nh ch]]) wr := by kernel_rfl
      have hpx : noHops x = (nh == 0) := by unfold noHops; rw [r3.1]
      cases hp : (nh == 0)
      · have HE := Lib.hid (show firstP noHops zs n n = firstP noHops zs n (n - (k + 1)) by rw [hS.out]; exact firstP_go hlt (by rw [← hx.out, hpx, hp]))
        have HP := Lib.hid (show ((nh : Int) == 0) = false by simp only [beq_eq_false_iff_ne] at hp ⊢; omega)
        clear hp hpx
        go_wp2_with fail
        refine (emptyClosure _ _ _ ah nh ch _ hnh).mono ?_
        rintro e w2 ⟨he, m2⟩
        rw [HP.out] at he
        subst he
        go_wp2_with fail
        go_roundw
        case rel => exact ⟨rfl, k + 1, by omega, by go_num, HE.out, hM.trans m2⟩
        case measure => simp [intOf]; omega
      · have HE := Lib.hid (show firstP noHops zs n n = (k : Int) by rw [hS.out]; exact firstP_stop hlt (by rw [← hx.out, hpx, hp]))
        have HP := Lib.hid (show ((nh : Int) == 0) = true by simp only [beq_iff_eq] at hp ⊢; omega)
        clear hp hpx
        go_wp2_with fail
        refine (emptyClosure _ _ _ ah nh ch _ hnh).mono ?_
        rintro e w2 ⟨he, m2⟩
        rw [HP.out] at he
        subst he
        go_wp2_with fail
        go_ret
        exact ⟨retI HE.out.symm, hM.trans m2⟩
    · obtain rfl : n = k := by omega
      go_wp2_with fail
      go_ret
      exact ⟨retI (by rw [hS.out, Nat.sub_self]; rfl), hM⟩

set_option maxRecDepth 100000 in
set_option maxHeartbeats 4000000 in
theorem implEmpty (a : Option Addr) (n c B : Nat) (zs : List TPathPart) (w : World) (h : HasPathPart w B a n zs) (hB : B ≤ w.heap.size) (hn : szPathPart zs n ≤ 1048576) :
    Calls Try.prog 148 #[.agg #[.slice a n c]] w fun e w' => e = .returned (.bool (emptyB zs n)) ∧ Mk0 w w' := by
  have M0 := Mk.alloc w (Obj.cells #[Value.slice a n c] 67)
  have HC : ∀ W, Mk0 w W → Calls Try.prog 176 #[.slice a n c, .func (.func 177) #[] #[]] W fun e w' => e = .returned (.bool (emptyB zs n)) ∧ Mk0 W w' := fun W MW => by
    go_enter Try.func176, Try.ntmps176
    go_wp2_with fail
    refine (indexEmpty a n c B zs _ (h.mk MW hB (.inr (Nat.le_refl _))) (Nat.le_trans hB MW.size) hn).mono ?_
    rintro e w2 ⟨rfl, m2⟩
    go_wp2_with fail
    go_ret
    exact ⟨rfl, m2⟩
  go_enter Try.func148, Try.ntmps148
  go_wp2_with fail
  refine (HC _ M0).mono ?_
  rintro e w2 ⟨rfl, m2⟩
  go_wp2_with fail
  go_ret
  exact ⟨rfl, M0.trans m2⟩

set_option maxRecDepth 100000 in
set_option maxHeartbeats 4000000 in
theorem cHopAny (x0 x1 x2 x4 x5 x6 x7 x8 : Int) (a3 : Option Addr) (n3 c3 : Nat) (z3 : List TPathPart) (a9 : Option Addr) (n9 c9 B : Nat) (w : World) (h3 : HasPathPart w B a3 n3 z3) (hB : B ≤ w.heap.size) (hn3 : szPathPart z3 n3 ≤ 1048576) (q0 : Nat) (u3 : w.cell? ⟨q0, 3, none⟩ = some (.slice a3 n3 c3)) (u4 : w.cell? ⟨q0, 4, none⟩ = some (.int .i64 x4)) (u5 : w.cell? ⟨q0, 5, none⟩ = some (.int .i64 x5)) :
    Calls Try.prog 149 #[.pointer (some ⟨q0, 0, none⟩)] w fun e w' => (if hopB z3 n3 x4 x5 = true then ∃ pb po, e = .returned (.pointer (some ⟨pb, po, none⟩)) else e = .returned (.pointer none)) ∧ Mk0 w w' := by
  have hn : n3 ≤ 1048576 := Nat.le_trans (szPathPart_n z3 n3) hn3
  by_cases hA : 0 ≤ x4 ∧ x4 < (n3 : Int)
  · obtain ⟨k, rfl⟩ := Int.eq_ofNat_of_zero_le hA.1
    have hk : k < n3 := by have := hA.2; omega
    obtain ⟨b, off, x, rfl, hb, hx, ah, nh, ch, d0, d1, d2, d3, r3, m3, t3, z3'⟩ := HasPathPart.at _ _ _ _ _ _ h3 hk
    have hnh : nh ≤ 1048576 := by have HS := szPathPart_at z3 hk; unfold sePathPart at HS; rw [← hx.out, r3.1] at HS; omega
    by_cases hB' : 0 ≤ x5 ∧ x5 < (nh : Int)
    · obtain ⟨j, rfl⟩ := Int.eq_ofNat_of_zero_le hB'.1
      have hj : j < nh := by have := hB'.2; omega
      obtain ⟨bh, offh, q, rfl, hbh, hq, e0, e1, e2, e3, e4⟩ := HasHop.at _ _ _ _ _ _ r3 hj
      refine (cHopC q0 k j b off n3 c3 bh offh nh ch _ u3 u4 u5 d3 hn hk hj hnh).mono ?_
      rintro e w1 ⟨rfl, m1⟩
      refine ⟨?_, m1⟩
      rw [if_pos (by unfold hopB; rw [pkHop_yes hk (by rw [← hx.out]; exact r3.1) hj]; rfl)]
      exact ⟨_, _, rfl⟩
    · refine (cHopB q0 k b off n3 c3 x5 ah nh ch _ u3 u4 u5 d3 hn hk hB' hnh).mono ?_
      rintro e w1 ⟨rfl, m1⟩
      refine ⟨?_, m1⟩
      rw [if_neg (by unfold hopB; rw [pkHop_noB hk (by rw [← hx.out]; exact r3.1) hB']; decide)]
  · refine (cHopA q0 x4 x5 a3 n3 c3 _ u3 u4 u5 hn hA).mono ?_
    rintro e w1 ⟨rfl, m1⟩
    refine ⟨?_, m1⟩
    rw [if_neg (by unfold hopB; rw [pkHop_noA hA]; decide)]

set_option maxRecDepth 100000 in
set_option maxHeartbeats 4000000 in
theorem implVPk (x0 x1 x2 x4 x5 x6 x7 x8 : Int) (a3 : Option Addr) (n3 c3 : Nat) (z3 : List TPathPart) (a9 : Option Addr) (n9 c9 B : Nat) (w : World) (h3 : HasPathPart w B a3 n3 z3) (hB : B ≤ w.heap.size) (hn3 : szPathPart z3 n3 ≤ 1048576) :
    Calls Try.prog 104 #[.agg #[.int .i64 x0, .int .i64 x1, .int .i64 x2, .slice a3 n3 c3, .int .i64 x4, .int .i64 x5, .int .i64 x6, .int .i64 x7, .int .i64 x8, .slice a9 n9 c9]] w fun e w' => e = .returned (.bool (vpkB x0 x1 x2 x4 x5 x6 x7 x8 n3 z3 n9)) ∧ Mk0 w w' := by
  have M0 := Mk.alloc w (Obj.cells #[Value.int .i64 x0, Value.int .i64 x1, Value.int .i64 x2, Value.slice a3 n3 c3, Value.int .i64 x4, Value.int .i64 x5, Value.int .i64 x6, Value.int .i64 x7, Value.int .i64 x8, Value.slice a9 n9 c9] 69)
  have hn : n3 ≤ 1048576 := Nat.le_trans (szPathPart_n z3 n3) hn3
  have i3 : (n3 : Int) ≤ 1048576 := by omega
  have u0 : (w.alloc (Obj.cells #[Value.int .i64 x0, Value.int .i64 x1, Value.int .i64 x2, Value.slice a3 n3 c3, Value.int .i64 x4, Value.int .i64 x5, Value.int .i64 x6, Value.int .i64 x7, Value.int .i64 x8, Value.slice a9 n9 c9] 69)).cell? ⟨w.heap.size, 0, none⟩ = some (.int .i64 x0) := by simp [go_sem]
  have u1 : (w.alloc (Obj.cells #[Value.int .i64 x0, Value.int .i64 x1, Value.int .i64 x2, Value.slice a3 n3 c3, Value.int .i64 x4, Value.int .i64 x5, Value.int .i64 x6, Value.int .i64 x7, Value.int .i64 x8, Value.slice a9 n9 c9] 69)).cell? ⟨w.heap.size, 1, none⟩ = some (.int .i64 x1) := by simp [go_sem]
  have u2 : (w.alloc (Obj.cells #[Value.int .i64 x0, Value.int .i64 x1, Value.int .i64 x2, Value.slice a3 n3 c3, Value.int .i64 x4, Value.int .i64 x5, Value.int .i64 x6, Value.int .i64 x7, Value.int .i64 x8, Value.slice a9 n9 c9] 69)).cell? ⟨w.heap.size, 2, none⟩ = some (.int .i64 x2) := by simp [go_sem]
  have u3 : (w.alloc (Obj.cells #[Value.int .i64 x0, Value.int .i64 x1, Value.int .i64 x2, Value.slice a3 n3 c3, Value.int .i64 x4, Value.int .i64 x5, Value.int .i64 x6, Value.int .i64 x7, Value.int .i64 x8, Value.slice a9 n9 c9] 69)).cell? ⟨w.heap.size, 3, none⟩ = some (.slice a3 n3 c3) := by simp [go_sem]
  have u4 : (w.alloc (Obj.cells #[Value.int .i64 x0, Value.int .i64 x1, Value.int .i64 x2, Value.slice a3 n3 c3, Value.int .i64 x4, Value.int .i64 x5, Value.int .i64 x6, Value.int .i64 x7, Value.int .i64 x8, Value.slice a9 n9 c9] 69)).cell? ⟨w.heap.size, 4, none⟩ = some (.int .i64 x4) := by simp [go_sem]
  have u5 : (w.alloc (Obj.cells #[Value.int .i64 x0, Value.int .i64 x1, Value.int .i64 x2, Value.slice a3 n3 c3, Value.int .i64 x4, Value.int .i64 x5, Value.int .i64 x6, Value.int .i64 x7, Value.int .i64 x8, Value.slice a9 n9 c9] 69)).cell? ⟨w.heap.size, 5, none⟩ = some (.int .i64 x5) := by simp [go_sem]
  have u6 : (w.alloc (Obj.cells #[Value.int .i64 x0, Value.int .i64 x1, Value.int .i64 x2, Value.slice a3 n3 c3, Value.int .i64 x4, Value.int .i64 x5, Value.int .i64 x6, Value.int .i64 x7, Value.int .i64 x8, Value.slice a9 n9 c9] 69)).cell? ⟨w.heap.size, 6, none⟩ = some (.int .i64 x6) := by simp [go_sem]
  have u7 : (w.alloc (Obj.cells #[Value.int .i64 x0, Value.int .i64 x1, Value.int .i64 x2, Value.slice a3 n3 c3, Value.int .i64 x4, Value.int .i64 x5, Value.int .i64 x6, Value.int .i64 x7, Value.int .i64 x8, Value.slice a9 n9 c9] 69)).cell? ⟨w.heap.size, 7, none⟩ = some (.int .i64 x7) := by simp [go_sem]
  have u8 : (w.alloc (Obj.cells #[Value.int .i64 x0, Value.int .i64 x1, Value.int .i64 x2, Value.slice a3 n3 c3, Value.int .i64 x4, Value.int .i64 x5, Value.int .i64 x6, Value.int .i64 x7, Value.int .i64 x8, Value.slice a9 n9 c9] 69)).cell? ⟨w.heap.size, 8, none⟩ = some (.int .i64 x8) := by simp [go_sem]
  have u9 : (w.alloc (Obj.cells #[Value.int .i64 x0, Value.int .i64 x1, Value.int .i64 x2, Value.slice a3 n3 c3, Value.int .i64 x4, Value.int .i64 x5, Value.int .i64 x6, Value.int .i64 x7, Value.int .i64 x8, Value.slice a9 n9 c9] 69)).cell? ⟨w.heap.size, 9, none⟩ = some (.slice a9 n9 c9) := by simp [go_sem]
  go_enter Try.func104, Try.ntmps104
  go_wp2_with fail
  have MM := M0
  refine (implIn x0 1 3 _).mono ?_
  rintro e w' ⟨he, rfl⟩
  clear MM
  cases h1 : inB x0 1 3
  · rw [h1] at he
    subst he
    have H1 := Lib.hid h1
    clear h1
    go_wp2_with fail
    go_ret
    exact ⟨retB (by unfold vpkB restB; simp [H1.out]), M0⟩
  · rw [h1] at he
    subst he
    have H1 := Lib.hid h1
    clear h1
    go_wp2_with fail
    have MM := M0
    refine (implEncPath a3 n3 c3 B z3 _ (h3.mk MM hB (.inr (Nat.le_refl _))) (Nat.le_trans hB MM.size) hn3).mono ?_
    rintro e v2 ⟨he, m2⟩
    replace u0 := m2.cellAt u0
    replace u1 := m2.cellAt u1
    replace u2 := m2.cellAt u2
    replace u3 := m2.cellAt u3
    replace u4 := m2.cellAt u4
    replace u5 := m2.cellAt u5
    replace u6 := m2.cellAt u6
    replace u7 := m2.cellAt u7
    replace u8 := m2.cellAt u8
    replace u9 := m2.cellAt u9
    have M2 := M0.trans m2
    clear MM
    cases h2 : encPathB z3 n3
    · rw [h2] at he
      subst he
      have H2 := Lib.hid h2
      clear h2
      go_wp2_with fail
      go_ret
      exact ⟨retB (by unfold vpkB restB; simp [H1.out, H2.out]), M2⟩
    · rw [h2] at he
      subst he
      have H2 := Lib.hid h2
      clear h2
      go_wp2_with fail
      have MM := M2
      refine (implEmpty a3 n3 c3 B z3 _ (h3.mk MM hB (.inr (Nat.le_refl _))) (Nat.le_trans hB MM.size) hn3).mono ?_
      rintro e v3 ⟨he, m3⟩
      replace u0 := m3.cellAt u0
      replace u1 := m3.cellAt u1
      replace u2 := m3.cellAt u2
      replace u3 := m3.cellAt u3
      replace u4 := m3.cellAt u4
      replace u5 := m3.cellAt u5
      replace u6 := m3.cellAt u6
      replace u7 := m3.cellAt u7
      replace u8 := m3.cellAt u8
      replace u9 := m3.cellAt u9
      have M3 := M2.trans m3
      clear MM
      cases h3 : emptyB z3 n3
      · rw [h3] at he
        subst he
        have H3 := Lib.hid h3
        clear h3
        go_wp2_with fail
        have MM := M3
        refine (cHopAny x0 x1 x2 x4 x5 x6 x7 x8 a3 n3 c3 z3 a9 n9 c9 B _ (h3.mk MM hB (.inr (Nat.le_refl _))) (Nat.le_trans hB MM.size) hn3 w.heap.size u3 u4 u5).mono ?_
        rintro e v4 ⟨he, m4⟩
        replace u0 := m4.cellAt u0
        replace u1 := m4.cellAt u1
        replace u2 := m4.cellAt u2
        replace u3 := m4.cellAt u3
        replace u4 := m4.cellAt u4
        replace u5 := m4.cellAt u5
        replace u6 := m4.cellAt u6
        replace u7 := m4.cellAt u7
        replace u8 := m4.cellAt u8
        replace u9 := m4.cellAt u9
        have M4 := M3.trans m4
        clear MM
        cases h4 : hopB z3 n3 x4 x5
        · rw [if_neg (by rw [h4]; decide)] at he
          subst he
          have H4 := Lib.hid h4
          clear h4
          go_wp2_with fail
          go_ret
          exact ⟨retB (by unfold vpkB restB; simp [H1.out, H2.out, H3.out, H4.out]), M4⟩
        · rw [if_pos (by rw [h4])] at he
          obtain ⟨pb, po, rfl⟩ := he
          have H4 := Lib.hid h4
          clear h4
          go_wp2_with fail
          have MM := M4
          refine (implRes x6 _).mono ?_
          rintro e w' ⟨he, rfl⟩
          clear MM
          cases h5 : inB x6 0 2147483646
          · rw [h5] at he
            subst he
            have H5 := Lib.hid h5
            clear h5
            go_wp2_with fail
            go_ret
            exact ⟨retB (by unfold vpkB restB; simp [H1.out, H2.out, H3.out, H4.out, H5.out]), M4⟩
          · rw [h5] at he
            subst he
            have H5 := Lib.hid h5
            clear h5
            go_wp2_with fail
            have MM := M4
            refine (implIn x1 0 7 _).mono ?_
            rintro e w' ⟨he, rfl⟩
            clear MM
            cases h6 : inB x1 0 7
            · rw [h6] at he
              subst he
              have H6 := Lib.hid h6
              clear h6
              go_wp2_with fail
              go_ret
              exact ⟨retB (by unfold vpkB restB; simp [H1.out, H2.out, H3.out, H4.out, H5.out, H6.out]), M4⟩
            · rw [h6] at he
              subst he
              have H6 := Lib.hid h6
              clear h6
              go_wp2_with fail
              have MM := M4
              refine (implIn x2 0 7 _).mono ?_
              rintro e w' ⟨he, rfl⟩
              clear MM
              cases h7 : inB x2 0 7
              · rw [h7] at he
                subst he
                have H7 := Lib.hid h7
                clear h7
                go_wp2_with fail
                go_ret
                exact ⟨retB (by unfold vpkB restB; simp [H1.out, H2.out, H3.out, H4.out, H5.out, H6.out, H7.out]), M4⟩
              · rw [h7] at he
                subst he
                have H7 := Lib.hid h7
                clear h7
                go_wp2_with fail
                have MM := M4
                refine (implIn x7 0 100000 _).mono ?_
                rintro e w' ⟨he, rfl⟩
                clear MM
                cases h8 : inB x7 0 100000
                · rw [h8] at he
                  subst he
                  have H8 := Lib.hid h8
                  clear h8
                  go_wp2_with fail
                  go_ret
                  exact ⟨retB (by unfold vpkB restB; simp [H1.out, H2.out, H3.out, H4.out, H5.out, H6.out, H7.out, H8.out]), M4⟩
                · rw [h8] at he
                  subst he
                  have H8 := Lib.hid h8
                  clear h8
                  go_wp2_with fail
                  have MM := M4
                  refine (implIn x8 0 100000 _).mono ?_
                  rintro e w' ⟨he, rfl⟩
                  clear MM
                  cases h9 : inB x8 0 100000
                  · rw [h9] at he
                    subst he
                    have H9 := Lib.hid h9
                    clear h9
                    go_wp2_with fail
                    go_ret
                    exact ⟨retB (by unfold vpkB restB; simp [H1.out, H2.out, H3.out, H4.out, H5.out, H6.out, H7.out, H8.out, H9.out]), M4⟩
                  · rw [h9] at he
                    subst he
                    have H9 := Lib.hid h9
                    clear h9
                    go_wp2_with fail
                    cases h10 : decide ((n9 : Int) ≤ 40)
                    · have H10 := Lib.hid h10
                      replace h10 : (40 : Int) < (n9 : Int) := by simpa using h10
                      go_wp2_with fail
                      go_ret
                      exact ⟨retB (by unfold vpkB restB; rw [H1.out, H2.out, H3.out, H4.out, H5.out, H6.out, H7.out, H8.out, H9.out, H10.out]; rfl), M4⟩
                    · have H10 := Lib.hid h10
                      replace h10 : (n9 : Int) ≤ 40 := by simpa using h10
                      go_wp2_with fail
                      go_ret
                      exact ⟨retB (by unfold vpkB restB; rw [H1.out, H2.out, H3.out, H4.out, H5.out, H6.out, H7.out, H8.out, H9.out, H10.out]; rfl), M4⟩
      · rw [h3] at he
        subst he
        have H3 := Lib.hid h3
        clear h3
        go_wp2_with fail
        go_ret
        exact ⟨retB (by unfold vpkB restB; simp [H1.out, H2.out, H3.out]), M3⟩

end Go.Proofs.Ytpfjjfbheliinaa
namespace Go.Proofs.Ytpfjjfbheliinaa
open Go.ChangeShapes Go.WideShapes Go.ChangeAt Go.RowKit
set_option linter.unusedVariables false
theorem hopB_at {ps : List TPathPart} {n k m : Nat} {hi : Int} (hk : k < n) (hm : (ps.getD k default).hops.length = m) : hopB ps n (k : Int) hi = inB hi 0 ((m : Int) - 1) := by
  unfold hopB inB
  by_cases h : 0 ≤ hi ∧ hi < (m : Int)
  · obtain ⟨j, rfl⟩ := Int.eq_ofNat_of_zero_le h.1
    rw [pkHop_yes hk hm (by omega), decide_eq_true (by omega)]; rfl
  · rw [pkHop_noB hk hm h, decide_eq_false (by omega)]; rfl
theorem hopB_out {ps : List TPathPart} {n : Nat} {pi hi : Int} (h : inB pi 0 ((n : Int) - 1) = false) : hopB ps n pi hi = false := by
  unfold inB at h
  unfold hopB
  rw [pkHop_noA (by have := of_decide_eq_false h; omega)]
  rfl
theorem empty_no {ps : List TPathPart} {n : Nat} (h : firstP noHops ps n n = firstP noHops ps n 0) : emptyB ps n = false := by
  unfold emptyB; rw [h]; rfl
theorem empty_yes {ps : List TPathPart} {n k : Nat} (h : firstP noHops ps n n = (k : Int)) : emptyB ps n = true := by
  unfold emptyB; rw [h]; exact decide_eq_true (by omega)
set_option maxRecDepth 100000 in
set_option maxHeartbeats 4000000 in
theorem specVPk (x0 x1 x2 x4 x5 x6 x7 x8 : Int) (a3 : Option Addr) (n3 c3 : Nat) (z3 : List TPathPart) (a9 : Option Addr) (n9 c9 B : Nat) (w : World) (h3 : HasPathPart w B a3 n3 z3) (hB : B ≤ w.heap.size) (hn3 : szPathPart z3 n3 ≤ 1048576) :
    Calls Try.prog 100 #[.agg #[.int .i64 x0, .int .i64 x1, .int .i64 x2, .slice a3 n3 c3, .int .i64 x4, .int .i64 x5, .int .i64 x6, .int .i64 x7, .int .i64 x8, .slice a9 n9 c9]] w fun e w' => e = .returned (.bool (vpkB x0 x1 x2 x4 x5 x6 x7 x8 n3 z3 n9)) ∧ Mk0 w w' := by
  have M0 := Mk.alloc w (Obj.cells #[Value.int .i64 x0, Value.int .i64 x1, Value.int .i64 x2, Value.slice a3 n3 c3, Value.int .i64 x4, Value.int .i64 x5, Value.int .i64 x6, Value.int .i64 x7, Value.int .i64 x8, Value.slice a9 n9 c9] 69)
  have hn : n3 ≤ 1048576 := Nat.le_trans (szPathPart_n z3 n3) hn3
  have i3 : (n3 : Int) ≤ 1048576 := by omega
  have hwr : IntKind.i64.wrap ((n3 : Int) - 1) = (n3 : Int) - 1 := by rw [IntKind.wrap_i64]; omega
  have u0 : (w.alloc (Obj.cells #[Value.int .i64 x0, Value.int .i64 x1, Value.int .i64 x2, Value.slice a3 n3 c3, Value.int .i64 x4, Value.int .i64 x5, Value.int .i64 x6, Value.int .i64 x7, Value.int .i64 x8, Value.slice a9 n9 c9] 69)).cell? ⟨w.heap.size, 0, none⟩ = some (.int .i64 x0) := by simp [go_sem]
  have u1 : (w.alloc (Obj.cells #[Value.int .i64 x0, Value.int .i64 x1, Value.int .i64 x2, Value.slice a3 n3 c3, Value.int .i64 x4, Value.int .i64 x5, Value.int .i64 x6, Value.int .i64 x7, Value.int .i64 x8, Value.slice a9 n9 c9] 69)).cell? ⟨w.heap.size, 1, none⟩ = some (.int .i64 x1) := by simp [go_sem]
  have u2 : (w.alloc (Obj.cells #[Value.int .i64 x0, Value.int .i64 x1, Value.int .i64 x2, Value.slice a3 n3 c3, Value.int .i64 x4, Value.int .i64 x5, Value.int .i64 x6, Value.int .i64 x7, Value.int .i64 x8, Value.slice a9 n9 c9] 69)).cell? ⟨w.heap.size, 2, none⟩ = some (.int .i64 x2) := by simp [go_sem]
  have u3 : (w.alloc (Obj.cells #[Value.int .i64 x0, Value.int .i64 x1, Value.int .i64 x2, Value.slice a3 n3 c3, Value.int .i64 x4, Value.int .i64 x5, Value.int .i64 x6, Value.int .i64 x7, Value.int .i64 x8, Value.slice a9 n9 c9] 69)).cell? ⟨w.heap.size, 3, none⟩ = some (.slice a3 n3 c3) := by simp [go_sem]
  have u4 : (w.alloc (Obj.cells #[Value.int .i64 x0, Value.int .i64 x1, Value.int .i64 x2, Value.slice a3 n3 c3, Value.int .i64 x4, Value.int .i64 x5, Value.int .i64 x6, Value.int .i64 x7, Value.int .i64 x8, Value.slice a9 n9 c9] 69)).cell? ⟨w.heap.size, 4, none⟩ = some (.int .i64 x4) := by simp [go_sem]
  have u5 : (w.alloc (Obj.cells #[Value.int .i64 x0, Value.int .i64 x1, Value.int .i64 x2, Value.slice a3 n3 c3, Value.int .i64 x4, Value.int .i64 x5, Value.int .i64 x6, Value.int .i64 x7, Value.int .i64 x8, Value.slice a9 n9 c9] 69)).cell? ⟨w.heap.size, 5, none⟩ = some (.int .i64 x5) := by simp [go_sem]
  have u6 : (w.alloc (Obj.cells #[Value.int .i64 x0, Value.int .i64 x1, Value.int .i64 x2, Value.slice a3 n3 c3, Value.int .i64 x4, Value.int .i64 x5, Value.int .i64 x6, Value.int .i64 x7, Value.int .i64 x8, Value.slice a9 n9 c9] 69)).cell? ⟨w.heap.size, 6, none⟩ = some (.int .i64 x6) := by simp [go_sem]
  have u7 : (w.alloc (Obj.cells #[Value.int .i64 x0, Value.int .i64 x1, Value.int .i64 x2, Value.slice a3 n3 c3, Value.int .i64 x4, Value.int .i64 x5, Value.int .i64 x6, Value.int .i64 x7, Value.int .i64 x8, Value.slice a9 n9 c9] 69)).cell? ⟨w.heap.size, 7, none⟩ = some (.int .i64 x7) := by simp [go_sem]
  have u8 : (w.alloc (Obj.cells #[Value.int .i64 x0, Value.int .i64 x1, Value.int .i64 x2, Value.slice a3 n3 c3, Value.int .i64 x4, Value.int .i64 x5, Value.int .i64 x6, Value.int .i64 x7, Value.int .i64 x8, Value.slice a9 n9 c9] 69)).cell? ⟨w.heap.size, 8, none⟩ = some (.int .i64 x8) := by simp [go_sem]
  have u9 : (w.alloc (Obj.cells #[Value.int .i64 x0, Value.int .i64 x1, Value.int .i64 x2, Value.slice a3 n3 c3, Value.int .i64 x4, Value.int .i64 x5, Value.int .i64 x6, Value.int .i64 x7, Value.int .i64 x8, Value.slice a9 n9 c9] 69)).cell? ⟨w.heap.size, 9, none⟩ = some (.slice a9 n9 c9) := by simp [go_sem]
  have IH := Lib.hid (fun (w' : World) (m : Mk0 (w.alloc (Obj.cells #[Value.int .i64 x0, Value.int .i64 x1, Value.int .i64 x2, Value.slice a3 n3 c3, Value.int .i64 x4, Value.int .i64 x5, Value.int .i64 x6, Value.int .i64 x7, Value.int .i64 x8, Value.slice a9 n9 c9] 69)) w') => (And.intro (m.cellAt u0) (And.intro (m.cellAt u1) (And.intro (m.cellAt u2) (And.intro (m.cellAt u3) (And.intro (m.cellAt u4) (And.intro (m.cellAt u5) (And.intro (m.cellAt u6) (And.intro (m.cellAt u7) (And.intro (m.cellAt u8) (m.cellAt u9)))))))))))
  go_enter Try.func100, Try.ntmps100
  go_wp2_with fail
  refine (specIn x0 1 3 _).mono ?_
  rintro e w' ⟨he, rfl⟩
  cases h1 : inB x0 1 3
  · rw [h1] at he
    subst he
    have H1 := Lib.hid h1
    clear h1
    go_wp2_with fail
    go_ret
    exact ⟨retB (by unfold vpkB restB; simp [H1.out]), M0⟩
  · rw [h1] at he
    subst he
    have H1 := Lib.hid h1
    clear h1
    go_wp2_with fail
    refine (specEncPath a3 n3 c3 B z3 _ (h3.mk M0 hB (.inr (Nat.le_refl _))) (Nat.le_trans hB M0.size) hn3).mono ?_
    rintro e v2 ⟨he, m2⟩
    replace u0 := m2.cellAt u0
    replace u1 := m2.cellAt u1
    replace u2 := m2.cellAt u2
    replace u3 := m2.cellAt u3
    replace u4 := m2.cellAt u4
    replace u5 := m2.cellAt u5
    replace u6 := m2.cellAt u6
    replace u7 := m2.cellAt u7
    replace u8 := m2.cellAt u8
    replace u9 := m2.cellAt u9
    have M2 := M0.trans m2
    cases h2 : encPathB z3 n3
    · rw [h2] at he
      subst he
      have H2 := Lib.hid h2
      clear h2
      go_wp2_with fail
      go_ret
      exact ⟨retB (by unfold vpkB restB; simp [H2.out]), M2⟩
    · rw [h2] at he
      subst he
      have H2 := Lib.hid h2
      clear h2
      go_wp2_with fail
      refine (specIn _ _ _ _).mono ?_
      rintro e w' ⟨he, rfl⟩
      try rw [hwr] at he
      cases h3' : inB x4 0 ((n3 : Int) - 1)
      · rw [h3'] at he
        subst he
        have H3 := Lib.hid h3'
        clear h3'
        have HQ := Lib.hid (hopB_out (hi := x5) (ps := z3) H3.out)
        go_wp2_with fail
        go_ret
        exact ⟨retB (by unfold vpkB restB; simp [HQ.out]), M2⟩
      · rw [h3'] at he
        subst he
        have H3 := Lib.hid h3'
        clear h3'
        go_wp2_with fail
        refine (specRes x6 _).mono ?_
        rintro e w' ⟨he, rfl⟩
        cases h4 : inB x6 0 2147483646
        · rw [h4] at he
          subst he
          have H4 := Lib.hid h4
          clear h4
          go_wp2_with fail
          go_ret
          exact ⟨retB (by unfold vpkB restB; simp [H4.out]), M2⟩
        · rw [h4] at he
          subst he
          have H4 := Lib.hid h4
          clear h4
          go_wp2_with fail
          clear u0 u1 u2 u3 u4 u5 u6 u7 u8 u9
          go_loopw [2, 3] (fun r i wr => r = .bool false ∧ ∃ k : Nat, k ≤ n3 ∧ i = .int .i64 k ∧ Hid (firstP noHops z3 n3 n3 = firstP noHops z3 n3 (n3 - k)) ∧ Mk0 (w.alloc (Obj.cells #[Value.int .i64 x0, Value.int .i64 x1, Value.int .i64 x2, Value.slice a3 n3 c3, Value.int .i64 x4, Value.int .i64 x5, Value.int .i64 x6, Value.int .i64 x7, Value.int .i64 x8, Value.slice a9 n9 c9] 69)) wr) (fun _ i _ => n3 - (intOf i).toNat)
          case atStart => exact ⟨rfl, 0, Nat.zero_le _, rfl, rfl, m2⟩
          case round =>
            obtain ⟨rfl, k, hk, rfl, hS, hM⟩ := hrel
            obtain ⟨u0, u1, u2, u3, u4, u5, u6, u7, u8, u9⟩ := IH.out _ hM
            by_cases hlt : k < n3
            · obtain ⟨b, off, x, rfl, hb, hx, ah, nh, ch, d0, d1, d2, d3, r3, m3, t3, z3'⟩ := HasPathPart.at _ _ _ _ _ _ (h3.mk (M0.trans hM) hB (.inr (Nat.le_refl _))) hlt
              have hnh : nh ≤ 1048576 := by have HS := szPathPart_at z3 hlt; unfold sePathPart at HS; rw [← hx.out, r3.1] at HS; omega
              have hpx : noHops x = (nh == 0) := by unfold noHops; rw [r3.1]
              cases hp : (nh == 0)
              · have HE := Lib.hid (show firstP noHops z3 n3 n3 = firstP noHops z3 n3 (n3 - (k + 1)) by rw [hS.out]; exact firstP_go hlt (by rw [← hx.out, hpx, hp]))
                have hp2 : ((nh : Int) == 0) = false := by simp only [beq_eq_false_iff_ne] at hp ⊢; omega
                clear hp hpx
                go_wp2_with fail
                go_roundw
                case rel => exact ⟨rfl, k + 1, by omega, by go_num, HE.out, hM⟩
                case measure => simp [intOf]; omega
              · have HE := Lib.hid (empty_yes (show firstP noHops z3 n3 n3 = (k : Int) by rw [hS.out]; exact firstP_stop hlt (by rw [← hx.out, hpx, hp])))
                have hp2 : ((nh : Int) == 0) = true := by simp only [beq_iff_eq] at hp ⊢; omega
                clear hp hpx
                go_wp2_with fail
                go_ret
                exact ⟨retB (by unfold vpkB restB; simp [HE.out]), M0.trans hM⟩
            · obtain rfl : n3 = k := by omega
              have HE := Lib.hid (empty_no (show firstP noHops z3 n3 n3 = firstP noHops z3 n3 0 by rw [hS.out, Nat.sub_self]))
              clear hS hlt hk
              have hq3 : 0 ≤ x4 ∧ x4 ≤ (n3 : Int) - 1 := of_decide_eq_true H3.out
              obtain ⟨k, rfl⟩ := Int.eq_ofNat_of_zero_le hq3.1
              have hk : k < n3 := by have := hq3.2; omega
              clear hq3
              obtain ⟨b, off, x, rfl, hb, hx, ah, nh, ch, d0, d1, d2, d3, r3, m3, t3, z3'⟩ := HasPathPart.at _ _ _ _ _ _ (h3.mk (M0.trans hM) hB (.inr (Nat.le_refl _))) hk
              have hnh : nh ≤ 1048576 := by have HS := szPathPart_at z3 hk; unfold sePathPart at HS; rw [← hx.out, r3.1] at HS; omega
              have i4 : (nh : Int) ≤ 1048576 := by omega
              have i1 : (0 : Int) ≤ (k : Int) := by omega
              have i2 : (k : Int) < (n3 : Int) := by omega
              have hwh : IntKind.i64.wrap ((nh : Int) - 1) = (nh : Int) - 1 := by rw [IntKind.wrap_i64]; omega
              have HHB := Lib.hid (hopB_at (hi := x5) hk (show (z3.getD k default).hops.length = nh by rw [← hx.out]; exact r3.1))
              cases h9' : inB x5 0 ((nh : Int) - 1)
              · have K0 := Lib.hid h9'
                clear h9'
                go_wp2_with fail
                refine wp_region_wk (fun w' => Mk0 wr w' ∧ w'.cell? ⟨w.heap.size, 1, none⟩ = some (.int .i64 x1) ∧ w'.cell? ⟨w.heap.size, 2, none⟩ = some (.int .i64 x2) ∧ w'.cell? ⟨w.heap.size, 3, none⟩ = some (.slice (some ⟨b, off, none⟩) n3 c3) ∧ w'.cell? ⟨w.heap.size, 4, none⟩ = some (.int .i64 (k : Int)) ∧ w'.cell? ⟨w.heap.size, 5, none⟩ = some (.int .i64 x5) ∧ w'.cell? ⟨w.heap.size, 7, none⟩ = some (.int .i64 x7) ∧ w'.cell? ⟨w.heap.size, 8, none⟩ = some (.int .i64 x8) ∧ w'.cell? ⟨w.heap.size, 9, none⟩ = some (.slice a9 n9 c9) ∧ w'.cell? ⟨b, off + k * 4 + 3, none⟩ = some (.slice ah nh ch)) (by kernel_rfl) (by kernel_rfl) (⟨Mk.drew1 _, u1, u2, u3, u4, u5, u7, u8, u9, d3⟩) ?_
                change Wk _ _ _ _ 40 0 _
                first | (refine Wk.skip (m := 39) (k := 0) rfl (by rfl) ?_) | (refine Wk.step (m := 39) (k := 0) (v := _) rfl (by rfl) (fun wv hS => by obtain ⟨s0, s1, s2, s3, s4, s5, s6, s7, s8, s9⟩ := hS; go_simp; try with_reducible rfl) ?_)
                try simp only [Act.put, List.getElem_toArray, List.getElem_cons_zero, List.setIfInBounds_toArray, List.set_cons_zero, List.set_cons_succ]
                first | (refine Wk.skip (m := 38) (k := 1) rfl (by rfl) ?_) | (refine Wk.step (m := 38) (k := 1) (v := _) rfl (by rfl) (fun wv hS => by obtain ⟨s0, s1, s2, s3, s4, s5, s6, s7, s8, s9⟩ := hS; go_simp; try with_reducible rfl) ?_)
                try simp only [Act.put, List.getElem_toArray, List.getElem_cons_succ, List.getElem_cons_zero, List.setIfInBounds_toArray, List.set_cons_zero, List.set_cons_succ]
                first | (refine Wk.skip (m := 37) (k := 2) rfl (by rfl) ?_) | (refine Wk.step (m := 37) (k := 2) (v := _) rfl (by rfl) (fun wv hS => by obtain ⟨s0, s1, s2, s3, s4, s5, s6, s7, s8, s9⟩ := hS; go_simp; try with_reducible rfl) ?_)
                try simp only [Act.put, List.getElem_toArray, List.getElem_cons_succ, List.getElem_cons_zero, List.setIfInBounds_toArray, List.set_cons_zero, List.set_cons_succ]
                first | (refine Wk.skip (m := 36) (k := 3) rfl (by rfl) ?_) | (refine Wk.step (m := 36) (k := 3) (v := _) rfl (by rfl) (fun wv hS => by obtain ⟨s0, s1, s2, s3, s4, s5, s6, s7, s8, s9⟩ := hS; go_simp; try with_reducible rfl) ?_)
                try simp only [Act.put, List.getElem_toArray, List.getElem_cons_succ, List.getElem_cons_zero, List.setIfInBounds_toArray, List.set_cons_zero, List.set_cons_succ]
                first | (refine Wk.skip (m := 35) (k := 4) rfl (by rfl) ?_) | (refine Wk.step (m := 35) (k := 4) (v := _) rfl (by rfl) (fun wv hS => by obtain ⟨s0, s1, s2, s3, s4, s5, s6, s7, s8, s9⟩ := hS; go_simp; try with_reducible rfl) ?_)
                try simp only [Act.put, List.getElem_toArray, List.getElem_cons_succ, List.getElem_cons_zero, List.setIfInBounds_toArray, List.set_cons_zero, List.set_cons_succ]
                first | (refine Wk.skip (m := 34) (k := 5) rfl (by rfl) ?_) | (refine Wk.step (m := 34) (k := 5) (v := _) rfl (by rfl) (fun wv hS => by obtain ⟨s0, s1, s2, s3, s4, s5, s6, s7, s8, s9⟩ := hS; go_simp; try with_reducible rfl) ?_)
                try simp only [Act.put, List.getElem_toArray, List.getElem_cons_succ, List.getElem_cons_zero, List.setIfInBounds_toArray, List.set_cons_zero, List.set_cons_succ]
                first | (refine Wk.skip (m := 33) (k := 6) rfl (by rfl) ?_) | (refine Wk.step (m := 33) (k := 6) (v := _) rfl (by rfl) (fun wv hS => by obtain ⟨s0, s1, s2, s3, s4, s5, s6, s7, s8, s9⟩ := hS; go_simp; try with_reducible rfl) ?_)
                try simp only [Act.put, List.getElem_toArray, List.getElem_cons_succ, List.getElem_cons_zero, List.setIfInBounds_toArray, List.set_cons_zero, List.set_cons_succ]
                first | (refine Wk.skip (m := 32) (k := 7) rfl (by rfl) ?_) | (refine Wk.step (m := 32) (k := 7) (v := _) rfl (by rfl) (fun wv hS => by obtain ⟨s0, s1, s2, s3, s4, s5, s6, s7, s8, s9⟩ := hS; go_simp; try with_reducible rfl) ?_)
                try simp only [Act.put, List.getElem_toArray, List.getElem_cons_succ, List.getElem_cons_zero, List.setIfInBounds_toArray, List.set_cons_zero, List.set_cons_succ]
                first | (refine Wk.skip (m := 31) (k := 8) rfl (by rfl) ?_) | (refine Wk.step (m := 31) (k := 8) (v := _) rfl (by rfl) (fun wv hS => by obtain ⟨s0, s1, s2, s3, s4, s5, s6, s7, s8, s9⟩ := hS; go_simp; try with_reducible rfl) ?_)
                try simp only [Act.put, List.getElem_toArray, List.getElem_cons_succ, List.getElem_cons_zero, List.setIfInBounds_toArray, List.set_cons_zero, List.set_cons_succ]
                first | (refine Wk.skip (m := 30) (k := 9) rfl (by rfl) ?_) | (refine Wk.step (m := 30) (k := 9) (v := _) rfl (by rfl) (fun wv hS => by obtain ⟨s0, s1, s2, s3, s4, s5, s6, s7, s8, s9⟩ := hS; go_simp; try with_reducible rfl) ?_)
                try simp only [Act.put, List.getElem_toArray, List.getElem_cons_succ, List.getElem_cons_zero, List.setIfInBounds_toArray, List.set_cons_zero, List.set_cons_succ]
                first | (refine Wk.skip (m := 29) (k := 10) rfl (by rfl) ?_) | (refine Wk.step (m := 29) (k := 10) (v := _) rfl (by rfl) (fun wv hS => by obtain ⟨s0, s1, s2, s3, s4, s5, s6, s7, s8, s9⟩ := hS; go_simp; try with_reducible rfl) ?_)
                try simp only [Act.put, List.getElem_toArray, List.getElem_cons_succ, List.getElem_cons_zero, List.setIfInBounds_toArray, List.set_cons_zero, List.set_cons_succ]
                first | (refine Wk.skip (m := 28) (k := 11) rfl (by rfl) ?_) | (refine Wk.step (m := 28) (k := 11) (v := _) rfl (by rfl) (fun wv hS => by obtain ⟨s0, s1, s2, s3, s4, s5, s6, s7, s8, s9⟩ := hS; go_simp; try with_reducible rfl) ?_)
                try simp only [Act.put, List.getElem_toArray, List.getElem_cons_succ, List.getElem_cons_zero, List.setIfInBounds_toArray, List.set_cons_zero, List.set_cons_succ]
                refine Wk.call (m := 27) (k := 12) (v := .bool false) _ _ rfl (by rfl) (fun wv hS => by obtain ⟨s0, s1, s2, s3, s4, s5, s6, s7, s8, s9⟩ := hS; go_simp; first | done | exact ⟨rfl, rfl⟩ | with_reducible rfl) (fun wv hS => ?_) ?_; · obtain ⟨s0, s1, s2, s3, s4, s5, s6, s7, s8, s9⟩ := hS; refine (specIn _ _ _ wv).mono ?_; rintro e w' ⟨he, rfl⟩; exact ⟨by rw [he]; first | rw [K0.out] | rw [hwh, K0.out], s0, s1, s2, s3, s4, s5, s6, s7, s8, s9⟩
                try simp only [Act.put, List.getElem_toArray, List.getElem_cons_succ, List.getElem_cons_zero, List.setIfInBounds_toArray, List.set_cons_zero, List.set_cons_succ]
                first | (refine Wk.skip (m := 26) (k := 13) rfl (by rfl) ?_) | (refine Wk.step (m := 26) (k := 13) (v := _) rfl (by rfl) (fun wv hS => by obtain ⟨s0, s1, s2, s3, s4, s5, s6, s7, s8, s9⟩ := hS; go_simp; try with_reducible rfl) ?_)
                try simp only [Act.put, List.getElem_toArray, List.getElem_cons_succ, List.getElem_cons_zero, List.setIfInBounds_toArray, List.set_cons_zero, List.set_cons_succ]
                first | (refine Wk.skip (m := 25) (k := 14) rfl (by rfl) ?_) | (refine Wk.step (m := 25) (k := 14) (v := _) rfl (by rfl) (fun wv hS => by obtain ⟨s0, s1, s2, s3, s4, s5, s6, s7, s8, s9⟩ := hS; go_simp; try with_reducible rfl) ?_)
                try simp only [Act.put, List.getElem_toArray, List.getElem_cons_succ, List.getElem_cons_zero, List.setIfInBounds_toArray, List.set_cons_zero, List.set_cons_succ]
                first | (refine Wk.skip (m := 24) (k := 15) rfl (by rfl) ?_) | (refine Wk.step (m := 24) (k := 15) (v := _) rfl (by rfl) (fun wv hS => by obtain ⟨s0, s1, s2, s3, s4, s5, s6, s7, s8, s9⟩ := hS; go_simp; try with_reducible rfl) ?_)
                try simp only [Act.put, List.getElem_toArray, List.getElem_cons_succ, List.getElem_cons_zero, List.setIfInBounds_toArray, List.set_cons_zero, List.set_cons_succ]
                first | (refine Wk.skip (m := 23) (k := 16) rfl (by rfl) ?_) | (refine Wk.step (m := 23) (k := 16) (v := _) rfl (by rfl) (fun wv hS => by obtain ⟨s0, s1, s2, s3, s4, s5, s6, s7, s8, s9⟩ := hS; go_simp; try with_reducible rfl) ?_)
                try simp only [Act.put, List.getElem_toArray, List.getElem_cons_succ, List.getElem_cons_zero, List.setIfInBounds_toArray, List.set_cons_zero, List.set_cons_succ]
                first | (refine Wk.skip (m := 22) (k := 17) rfl (by rfl) ?_) | (refine Wk.step (m := 22) (k := 17) (v := _) rfl (by rfl) (fun wv hS => by obtain ⟨s0, s1, s2, s3, s4, s5, s6, s7, s8, s9⟩ := hS; go_simp; try with_reducible rfl) ?_)
                try simp only [Act.put, List.getElem_toArray, List.getElem_cons_succ, List.getElem_cons_zero, List.setIfInBounds_toArray, List.set_cons_zero, List.set_cons_succ]
                first | (refine Wk.skip (m := 21) (k := 18) rfl (by rfl) ?_) | (refine Wk.step (m := 21) (k := 18) (v := _) rfl (by rfl) (fun wv hS => by obtain ⟨s0, s1, s2, s3, s4, s5, s6, s7, s8, s9⟩ := hS; go_simp; try with_reducible rfl) ?_)
                try simp only [Act.put, List.getElem_toArray, List.getElem_cons_succ, List.getElem_cons_zero, List.setIfInBounds_toArray, List.set_cons_zero, List.set_cons_succ]
                first | (refine Wk.skip (m := 20) (k := 19) rfl (by rfl) ?_) | (refine Wk.step (m := 20) (k := 19) (v := _) rfl (by rfl) (fun wv hS => by obtain ⟨s0, s1, s2, s3, s4, s5, s6, s7, s8, s9⟩ := hS; go_simp; try with_reducible rfl) ?_)
                try simp only [Act.put, List.getElem_toArray, List.getElem_cons_succ, List.getElem_cons_zero, List.setIfInBounds_toArray, List.set_cons_zero, List.set_cons_succ]
                first | (refine Wk.skip (m := 19) (k := 20) rfl (by rfl) ?_) | (refine Wk.step (m := 19) (k := 20) (v := _) rfl (by rfl) (fun wv hS => by obtain ⟨s0, s1, s2, s3, s4, s5, s6, s7, s8, s9⟩ := hS; go_simp; try with_reducible rfl) ?_)
                try simp only [Act.put, List.getElem_toArray, List.getElem_cons_succ, List.getElem_cons_zero, List.setIfInBounds_toArray, List.set_cons_zero, List.set_cons_succ]
                first | (refine Wk.skip (m := 18) (k := 21) rfl (by rfl) ?_) | (refine Wk.step (m := 18) (k := 21) (v := _) rfl (by rfl) (fun wv hS => by obtain ⟨s0, s1, s2, s3, s4, s5, s6, s7, s8, s9⟩ := hS; go_simp; try with_reducible rfl) ?_)
                try simp only [Act.put, List.getElem_toArray, List.getElem_cons_succ, List.getElem_cons_zero, List.setIfInBounds_toArray, List.set_cons_zero, List.set_cons_succ]
                first | (refine Wk.skip (m := 17) (k := 22) rfl (by rfl) ?_) | (refine Wk.step (m := 17) (k := 22) (v := _) rfl (by rfl) (fun wv hS => by obtain ⟨s0, s1, s2, s3, s4, s5, s6, s7, s8, s9⟩ := hS; go_simp; try with_reducible rfl) ?_)
                try simp only [Act.put, List.getElem_toArray, List.getElem_cons_succ, List.getElem_cons_zero, List.setIfInBounds_toArray, List.set_cons_zero, List.set_cons_succ]
                first | (refine Wk.skip (m := 16) (k := 23) rfl (by rfl) ?_) | (refine Wk.step (m := 16) (k := 23) (v := _) rfl (by rfl) (fun wv hS => by obtain ⟨s0, s1, s2, s3, s4, s5, s6, s7, s8, s9⟩ := hS; go_simp; try with_reducible rfl) ?_)
                try simp only [Act.put, List.getElem_toArray, List.getElem_cons_succ, List.getElem_cons_zero, List.setIfInBounds_toArray, List.set_cons_zero, List.set_cons_succ]
                first | (refine Wk.skip (m := 15) (k := 24) rfl (by rfl) ?_) | (refine Wk.step (m := 15) (k := 24) (v := _) rfl (by rfl) (fun wv hS => by obtain ⟨s0, s1, s2, s3, s4, s5, s6, s7, s8, s9⟩ := hS; go_simp; try with_reducible rfl) ?_)
                try simp only [Act.put, List.getElem_toArray, List.getElem_cons_succ, List.getElem_cons_zero, List.setIfInBounds_toArray, List.set_cons_zero, List.set_cons_succ]
                first | (refine Wk.skip (m := 14) (k := 25) rfl (by rfl) ?_) | (refine Wk.step (m := 14) (k := 25) (v := _) rfl (by rfl) (fun wv hS => by obtain ⟨s0, s1, s2, s3, s4, s5, s6, s7, s8, s9⟩ := hS; go_simp; try with_reducible rfl) ?_)
                try simp only [Act.put, List.getElem_toArray, List.getElem_cons_succ, List.getElem_cons_zero, List.setIfInBounds_toArray, List.set_cons_zero, List.set_cons_succ]
                first | (refine Wk.skip (m := 13) (k := 26) rfl (by rfl) ?_) | (refine Wk.step (m := 13) (k := 26) (v := _) rfl (by rfl) (fun wv hS => by obtain ⟨s0, s1, s2, s3, s4, s5, s6, s7, s8, s9⟩ := hS; go_simp; try with_reducible rfl) ?_)
                try simp only [Act.put, List.getElem_toArray, List.getElem_cons_succ, List.getElem_cons_zero, List.setIfInBounds_toArray, List.set_cons_zero, List.set_cons_succ]
                first | (refine Wk.skip (m := 12) (k := 27) rfl (by rfl) ?_) | (refine Wk.step (m := 12) (k := 27) (v := _) rfl (by rfl) (fun wv hS => by obtain ⟨s0, s1, s2, s3, s4, s5, s6, s7, s8, s9⟩ := hS; go_simp; try with_reducible rfl) ?_)
                try simp only [Act.put, List.getElem_toArray, List.getElem_cons_succ, List.getElem_cons_zero, List.setIfInBounds_toArray, List.set_cons_zero, List.set_cons_succ]
                first | (refine Wk.skip (m := 11) (k := 28) rfl (by rfl) ?_) | (refine Wk.step (m := 11) (k := 28) (v := _) rfl (by rfl) (fun wv hS => by obtain ⟨s0, s1, s2, s3, s4, s5, s6, s7, s8, s9⟩ := hS; go_simp; try with_reducible rfl) ?_)
                try simp only [Act.put, List.getElem_toArray, List.getElem_cons_succ, List.getElem_cons_zero, List.setIfInBounds_toArray, List.set_cons_zero, List.set_cons_succ]
                first | (refine Wk.skip (m := 10) (k := 29) rfl (by rfl) ?_) | (refine Wk.step (m := 10) (k := 29) (v := _) rfl (by rfl) (fun wv hS => by obtain ⟨s0, s1, s2, s3, s4, s5, s6, s7, s8, s9⟩ := hS; go_simp; try with_reducible rfl) ?_)
                try simp only [Act.put, List.getElem_toArray, List.getElem_cons_succ, List.getElem_cons_zero, List.setIfInBounds_toArray, List.set_cons_zero, List.set_cons_succ]
                first | (refine Wk.skip (m := 9) (k := 30) rfl (by rfl) ?_) | (refine Wk.step (m := 9) (k := 30) (v := _) rfl (by rfl) (fun wv hS => by obtain ⟨s0, s1, s2, s3, s4, s5, s6, s7, s8, s9⟩ := hS; go_simp; try with_reducible rfl) ?_)
                try simp only [Act.put, List.getElem_toArray, List.getElem_cons_succ, List.getElem_cons_zero, List.setIfInBounds_toArray, List.set_cons_zero, List.set_cons_succ]
                first | (refine Wk.skip (m := 8) (k := 31) rfl (by rfl) ?_) | (refine Wk.step (m := 8) (k := 31) (v := _) rfl (by rfl) (fun wv hS => by obtain ⟨s0, s1, s2, s3, s4, s5, s6, s7, s8, s9⟩ := hS; go_simp; try with_reducible rfl) ?_)
                try simp only [Act.put, List.getElem_toArray, List.getElem_cons_succ, List.getElem_cons_zero, List.setIfInBounds_toArray, List.set_cons_zero, List.set_cons_succ]
                first | (refine Wk.skip (m := 7) (k := 32) rfl (by rfl) ?_) | (refine Wk.step (m := 7) (k := 32) (v := _) rfl (by rfl) (fun wv hS => by obtain ⟨s0, s1, s2, s3, s4, s5, s6, s7, s8, s9⟩ := hS; go_simp; try with_reducible rfl) ?_)
                try simp only [Act.put, List.getElem_toArray, List.getElem_cons_succ, List.getElem_cons_zero, List.setIfInBounds_toArray, List.set_cons_zero, List.set_cons_succ]
                first | (refine Wk.skip (m := 6) (k := 33) rfl (by rfl) ?_) | (refine Wk.step (m := 6) (k := 33) (v := _) rfl (by rfl) (fun wv hS => by obtain ⟨s0, s1, s2, s3, s4, s5, s6, s7, s8, s9⟩ := hS; go_simp; try with_reducible rfl) ?_)
                try simp only [Act.put, List.getElem_toArray, List.getElem_cons_succ, List.getElem_cons_zero, List.setIfInBounds_toArray, List.set_cons_zero, List.set_cons_succ]
                first | (refine Wk.skip (m := 5) (k := 34) rfl (by rfl) ?_) | (refine Wk.step (m := 5) (k := 34) (v := _) rfl (by rfl) (fun wv hS => by obtain ⟨s0, s1, s2, s3, s4, s5, s6, s7, s8, s9⟩ := hS; go_simp; try with_reducible rfl) ?_)
                try simp only [Act.put, List.getElem_toArray, List.getElem_cons_succ, List.getElem_cons_zero, List.setIfInBounds_toArray, List.set_cons_zero, List.set_cons_succ]
                first | (refine Wk.skip (m := 4) (k := 35) rfl (by rfl) ?_) | (refine Wk.step (m := 4) (k := 35) (v := _) rfl (by rfl) (fun wv hS => by obtain ⟨s0, s1, s2, s3, s4, s5, s6, s7, s8, s9⟩ := hS; go_simp; try with_reducible rfl) ?_)
                try simp only [Act.put, List.getElem_toArray, List.getElem_cons_succ, List.getElem_cons_zero, List.setIfInBounds_toArray, List.set_cons_zero, List.set_cons_succ]
                first | (refine Wk.skip (m := 3) (k := 36) rfl (by rfl) ?_) | (refine Wk.step (m := 3) (k := 36) (v := _) rfl (by rfl) (fun wv hS => by obtain ⟨s0, s1, s2, s3, s4, s5, s6, s7, s8, s9⟩ := hS; go_simp; try with_reducible rfl) ?_)
                try simp only [Act.put, List.getElem_toArray, List.getElem_cons_succ, List.getElem_cons_zero, List.setIfInBounds_toArray, List.set_cons_zero, List.set_cons_succ]
                first | (refine Wk.skip (m := 2) (k := 37) rfl (by rfl) ?_) | (refine Wk.step (m := 2) (k := 37) (v := _) rfl (by rfl) (fun wv hS => by obtain ⟨s0, s1, s2, s3, s4, s5, s6, s7, s8, s9⟩ := hS; go_simp; try with_reducible rfl) ?_)
                try simp only [Act.put, List.getElem_toArray, List.getElem_cons_succ, List.getElem_cons_zero, List.setIfInBounds_toArray, List.set_cons_zero, List.set_cons_succ]
                first | (refine Wk.skip (m := 1) (k := 38) rfl (by rfl) ?_) | (refine Wk.step (m := 1) (k := 38) (v := _) rfl (by rfl) (fun wv hS => by obtain ⟨s0, s1, s2, s3, s4, s5, s6, s7, s8, s9⟩ := hS; go_simp; try with_reducible rfl) ?_)
                try simp only [Act.put, List.getElem_toArray, List.getElem_cons_succ, List.getElem_cons_zero, List.setIfInBounds_toArray, List.set_cons_zero, List.set_cons_succ]
                first | (refine Wk.skip (m := 0) (k := 39) rfl (by rfl) ?_) | (refine Wk.step (m := 0) (k := 39) (v := _) rfl (by rfl) (fun wv hS => by obtain ⟨s0, s1, s2, s3, s4, s5, s6, s7, s8, s9⟩ := hS; go_simp; try with_reducible rfl) ?_)
                try simp only [Act.put, List.getElem_toArray, List.getElem_cons_succ, List.getElem_cons_zero, List.setIfInBounds_toArray, List.set_cons_zero, List.set_cons_succ]
                refine Wk.done fun wE hE => ?_
                clear u1 u2 u3 u4 u5 u7 u8 u9 d3
                obtain ⟨mE, u1, u2, u3, u4, u5, u7, u8, u9, d3⟩ := hE
                go_wp2_with fail
                go_ret
                exact ⟨retB (by unfold vpkB restB; simp [HHB.out, K0.out]), (M0.trans hM).trans mE⟩
              · have K0 := Lib.hid h9'
                clear h9'
                cases h9' : inB x1 0 7
                · have K1 := Lib.hid h9'
                  clear h9'
                  go_wp2_with fail
                  refine wp_region_wk (fun w' => Mk0 wr w' ∧ w'.cell? ⟨w.heap.size, 1, none⟩ = some (.int .i64 x1) ∧ w'.cell? ⟨w.heap.size, 2, none⟩ = some (.int .i64 x2) ∧ w'.cell? ⟨w.heap.size, 3, none⟩ = some (.slice (some ⟨b, off, none⟩) n3 c3) ∧ w'.cell? ⟨w.heap.size, 4, none⟩ = some (.int .i64 (k : Int)) ∧ w'.cell? ⟨w.heap.size, 5, none⟩ = some (.int .i64 x5) ∧ w'.cell? ⟨w.heap.size, 7, none⟩ = some (.int .i64 x7) ∧ w'.cell? ⟨w.heap.size, 8, none⟩ = some (.int .i64 x8) ∧ w'.cell? ⟨w.heap.size, 9, none⟩ = some (.slice a9 n9 c9) ∧ w'.cell? ⟨b, off + k * 4 + 3, none⟩ = some (.slice ah nh ch)) (by kernel_rfl) (by kernel_rfl) (⟨Mk.drew1 _, u1, u2, u3, u4, u5, u7, u8, u9, d3⟩) ?_
                  change Wk _ _ _ _ 40 0 _
                  first | (refine Wk.skip (m := 39) (k := 0) rfl (by rfl) ?_) | (refine Wk.step (m := 39) (k := 0) (v := _) rfl (by rfl) (fun wv hS => by obtain ⟨s0, s1, s2, s3, s4, s5, s6, s7, s8, s9⟩ := hS; go_simp; try with_reducible rfl) ?_)
                  try simp only [Act.put, List.getElem_toArray, List.getElem_cons_zero, List.setIfInBounds_toArray, List.set_cons_zero, List.set_cons_succ]
                  first | (refine Wk.skip (m := 38) (k := 1) rfl (by rfl) ?_) | (refine Wk.step (m := 38) (k := 1) (v := _) rfl (by rfl) (fun wv hS => by obtain ⟨s0, s1, s2, s3, s4, s5, s6, s7, s8, s9⟩ := hS; go_simp; try with_reducible rfl) ?_)
                  try simp only [Act.put, List.getElem_toArray, List.getElem_cons_succ, List.getElem_cons_zero, List.setIfInBounds_toArray, List.set_cons_zero, List.set_cons_succ]
                  first | (refine Wk.skip (m := 37) (k := 2) rfl (by rfl) ?_) | (refine Wk.step (m := 37) (k := 2) (v := _) rfl (by rfl) (fun wv hS => by obtain ⟨s0, s1, s2, s3, s4, s5, s6, s7, s8, s9⟩ := hS; go_simp; try with_reducible rfl) ?_)
                  try simp only [Act.put, List.getElem_toArray, List.getElem_cons_succ, List.getElem_cons_zero, List.setIfInBounds_toArray, List.set_cons_zero, List.set_cons_succ]
                  first | (refine Wk.skip (m := 36) (k := 3) rfl (by rfl) ?_) | (refine Wk.step (m := 36) (k := 3) (v := _) rfl (by rfl) (fun wv hS => by obtain ⟨s0, s1, s2, s3, s4, s5, s6, s7, s8, s9⟩ := hS; go_simp; try with_reducible rfl) ?_)
                  try simp only [Act.put, List.getElem_toArray, List.getElem_cons_succ, List.getElem_cons_zero, List.setIfInBounds_toArray, List.set_cons_zero, List.set_cons_succ]
                  first | (refine Wk.skip (m := 35) (k := 4) rfl (by rfl) ?_) | (refine Wk.step (m := 35) (k := 4) (v := _) rfl (by rfl) (fun wv hS => by obtain ⟨s0, s1, s2, s3, s4, s5, s6, s7, s8, s9⟩ := hS; go_simp; try with_reducible rfl) ?_)
                  try simp only [Act.put, List.getElem_toArray, List.getElem_cons_succ, List.getElem_cons_zero, List.setIfInBounds_toArray, List.set_cons_zero, List.set_cons_succ]
                  first | (refine Wk.skip (m := 34) (k := 5) rfl (by rfl) ?_) | (refine Wk.step (m := 34) (k := 5) (v := _) rfl (by rfl) (fun wv hS => by obtain ⟨s0, s1, s2, s3, s4, s5, s6, s7, s8, s9⟩ := hS; go_simp; try with_reducible rfl) ?_)
                  try simp only [Act.put, List.getElem_toArray, List.getElem_cons_succ, List.getElem_cons_zero, List.setIfInBounds_toArray, List.set_cons_zero, List.set_cons_succ]
                  first | (refine Wk.skip (m := 33) (k := 6) rfl (by rfl) ?_) | (refine Wk.step (m := 33) (k := 6) (v := _) rfl (by rfl) (fun wv hS => by obtain ⟨s0, s1, s2, s3, s4, s5, s6, s7, s8, s9⟩ := hS; go_simp; try with_reducible rfl) ?_)
                  try simp only [Act.put, List.getElem_toArray, List.getElem_cons_succ, List.getElem_cons_zero, List.setIfInBounds_toArray, List.set_cons_zero, List.set_cons_succ]
                  first | (refine Wk.skip (m := 32) (k := 7) rfl (by rfl) ?_) | (refine Wk.step (m := 32) (k := 7) (v := _) rfl (by rfl) (fun wv hS => by obtain ⟨s0, s1, s2, s3, s4, s5, s6, s7, s8, s9⟩ := hS; go_simp; try with_reducible rfl) ?_)
                  try simp only [Act.put, List.getElem_toArray, List.getElem_cons_succ, List.getElem_cons_zero, List.setIfInBounds_toArray, List.set_cons_zero, List.set_cons_succ]
                  first | (refine Wk.skip (m := 31) (k := 8) rfl (by rfl) ?_) | (refine Wk.step (m := 31) (k := 8) (v := _) rfl (by rfl) (fun wv hS => by obtain ⟨s0, s1, s2, s3, s4, s5, s6, s7, s8, s9⟩ := hS; go_simp; try with_reducible rfl) ?_)
                  try simp only [Act.put, List.getElem_toArray, List.getElem_cons_succ, List.getElem_cons_zero, List.setIfInBounds_toArray, List.set_cons_zero, List.set_cons_succ]
                  first | (refine Wk.skip (m := 30) (k := 9) rfl (by rfl) ?_) | (refine Wk.step (m := 30) (k := 9) (v := _) rfl (by rfl) (fun wv hS => by obtain ⟨s0, s1, s2, s3, s4, s5, s6, s7, s8, s9⟩ := hS; go_simp; try with_reducible rfl) ?_)
                  try simp only [Act.put, List.getElem_toArray, List.getElem_cons_succ, List.getElem_cons_zero, List.setIfInBounds_toArray, List.set_cons_zero, List.set_cons_succ]
                  first | (refine Wk.skip (m := 29) (k := 10) rfl (by rfl) ?_) | (refine Wk.step (m := 29) (k := 10) (v := _) rfl (by rfl) (fun wv hS => by obtain ⟨s0, s1, s2, s3, s4, s5, s6, s7, s8, s9⟩ := hS; go_simp; try with_reducible rfl) ?_)
                  try simp only [Act.put, List.getElem_toArray, List.getElem_cons_succ, List.getElem_cons_zero, List.setIfInBounds_toArray, List.set_cons_zero, List.set_cons_succ]
                  first | (refine Wk.skip (m := 28) (k := 11) rfl (by rfl) ?_) | (refine Wk.step (m := 28) (k := 11) (v := _) rfl (by rfl) (fun wv hS => by obtain ⟨s0, s1, s2, s3, s4, s5, s6, s7, s8, s9⟩ := hS; go_simp; try with_reducible rfl) ?_)
                  try simp only [Act.put, List.getElem_toArray, List.getElem_cons_succ, List.getElem_cons_zero, List.setIfInBounds_toArray, List.set_cons_zero, List.set_cons_succ]
                  refine Wk.call (m := 27) (k := 12) (v := .bool true) _ _ rfl (by rfl) (fun wv hS => by obtain ⟨s0, s1, s2, s3, s4, s5, s6, s7, s8, s9⟩ := hS; go_simp; first | done | exact ⟨rfl, rfl⟩ | with_reducible rfl) (fun wv hS => ?_) ?_; · obtain ⟨s0, s1, s2, s3, s4, s5, s6, s7, s8, s9⟩ := hS; refine (specIn _ _ _ wv).mono ?_; rintro e w' ⟨he, rfl⟩; exact ⟨by rw [he]; first | rw [K0.out] | rw [hwh, K0.out], s0, s1, s2, s3, s4, s5, s6, s7, s8, s9⟩
                  try simp only [Act.put, List.getElem_toArray, List.getElem_cons_succ, List.getElem_cons_zero, List.setIfInBounds_toArray, List.set_cons_zero, List.set_cons_succ]
                  first | (refine Wk.skip (m := 26) (k := 13) rfl (by rfl) ?_) | (refine Wk.step (m := 26) (k := 13) (v := _) rfl (by rfl) (fun wv hS => by obtain ⟨s0, s1, s2, s3, s4, s5, s6, s7, s8, s9⟩ := hS; go_simp; try with_reducible rfl) ?_)
                  try simp only [Act.put, List.getElem_toArray, List.getElem_cons_succ, List.getElem_cons_zero, List.setIfInBounds_toArray, List.set_cons_zero, List.set_cons_succ]
                  first | (refine Wk.skip (m := 25) (k := 14) rfl (by rfl) ?_) | (refine Wk.step (m := 25) (k := 14) (v := _) rfl (by rfl) (fun wv hS => by obtain ⟨s0, s1, s2, s3, s4, s5, s6, s7, s8, s9⟩ := hS; go_simp; try with_reducible rfl) ?_)
                  try simp only [Act.put, List.getElem_toArray, List.getElem_cons_succ, List.getElem_cons_zero, List.setIfInBounds_toArray, List.set_cons_zero, List.set_cons_succ]
                  first | (refine Wk.skip (m := 24) (k := 15) rfl (by rfl) ?_) | (refine Wk.step (m := 24) (k := 15) (v := _) rfl (by rfl) (fun wv hS => by obtain ⟨s0, s1, s2, s3, s4, s5, s6, s7, s8, s9⟩ := hS; go_simp; try with_reducible rfl) ?_)
                  try simp only [Act.put, List.getElem_toArray, List.getElem_cons_succ, List.getElem_cons_zero, List.setIfInBounds_toArray, List.set_cons_zero, List.set_cons_succ]
                  refine Wk.call (m := 23) (k := 16) (v := .bool false) _ _ rfl (by rfl) (fun wv hS => by obtain ⟨s0, s1, s2, s3, s4, s5, s6, s7, s8, s9⟩ := hS; go_simp; first | done | exact ⟨rfl, rfl⟩ | with_reducible rfl) (fun wv hS => ?_) ?_; · obtain ⟨s0, s1, s2, s3, s4, s5, s6, s7, s8, s9⟩ := hS; refine (specIn _ _ _ wv).mono ?_; rintro e w' ⟨he, rfl⟩; exact ⟨by rw [he]; first | rw [K1.out] | rw [hwh, K1.out], s0, s1, s2, s3, s4, s5, s6, s7, s8, s9⟩
                  try simp only [Act.put, List.getElem_toArray, List.getElem_cons_succ, List.getElem_cons_zero, List.setIfInBounds_toArray, List.set_cons_zero, List.set_cons_succ]
                  first | (refine Wk.skip (m := 22) (k := 17) rfl (by rfl) ?_) | (refine Wk.step (m := 22) (k := 17) (v := _) rfl (by rfl) (fun wv hS => by obtain ⟨s0, s1, s2, s3, s4, s5, s6, s7, s8, s9⟩ := hS; go_simp; try with_reducible rfl) ?_)
                  try simp only [Act.put, List.getElem_toArray, List.getElem_cons_succ, List.getElem_cons_zero, List.setIfInBounds_toArray, List.set_cons_zero, List.set_cons_succ]
                  first | (refine Wk.skip (m := 21) (k := 18) rfl (by rfl) ?_) | (refine Wk.step (m := 21) (k := 18) (v := _) rfl (by rfl) (fun wv hS => by obtain ⟨s0, s1, s2, s3, s4, s5, s6, s7, s8, s9⟩ := hS; go_simp; try with_reducible rfl) ?_)
                  try simp only [Act.put, List.getElem_toArray, List.getElem_cons_succ, List.getElem_cons_zero, List.setIfInBounds_toArray, List.set_cons_zero, List.set_cons_succ]
                  first | (refine Wk.skip (m := 20) (k := 19) rfl (by rfl) ?_) | (refine Wk.step (m := 20) (k := 19) (v := _) rfl (by rfl) (fun wv hS => by obtain ⟨s0, s1, s2, s3, s4, s5, s6, s7, s8, s9⟩ := hS; go_simp; try with_reducible rfl) ?_)
                  try simp only [Act.put, List.getElem_toArray, List.getElem_cons_succ, List.getElem_cons_zero, List.setIfInBounds_toArray, List.set_cons_zero, List.set_cons_succ]
                  first | (refine Wk.skip (m := 19) (k := 20) rfl (by rfl) ?_) | (refine Wk.step (m := 19) (k := 20) (v := _) rfl (by rfl) (fun wv hS => by obtain ⟨s0, s1, s2, s3, s4, s5, s6, s7, s8, s9⟩ := hS; go_simp; try with_reducible rfl) ?_)
                  try simp only [Act.put, List.getElem_toArray, List.getElem_cons_succ, List.getElem_cons_zero, List.setIfInBounds_toArray, List.set_cons_zero, List.set_cons_succ]
                  first | (refine Wk.skip (m := 18) (k := 21) rfl (by rfl) ?_) | (refine Wk.step (m := 18) (k := 21) (v := _) rfl (by rfl) (fun wv hS => by obtain ⟨s0, s1, s2, s3, s4, s5, s6, s7, s8, s9⟩ := hS; go_simp; try with_reducible rfl) ?_)
                  try simp only [Act.put, List.getElem_toArray, List.getElem_cons_succ, List.getElem_cons_zero, List.setIfInBounds_toArray, List.set_cons_zero, List.set_cons_succ]
                  first | (refine Wk.skip (m := 17) (k := 22) rfl (by rfl) ?_) | (refine Wk.step (m := 17) (k := 22) (v := _) rfl (by rfl) (fun wv hS => by obtain ⟨s0, s1, s2, s3, s4, s5, s6, s7, s8, s9⟩ := hS; go_simp; try with_reducible rfl) ?_)
                  try simp only [Act.put, List.getElem_toArray, List.getElem_cons_succ, List.getElem_cons_zero, List.setIfInBounds_toArray, List.set_cons_zero, List.set_cons_succ]
                  first | (refine Wk.skip (m := 16) (k := 23) rfl (by rfl) ?_) | (refine Wk.step (m := 16) (k := 23) (v := _) rfl (by rfl) (fun wv hS => by obtain ⟨s0, s1, s2, s3, s4, s5, s6, s7, s8, s9⟩ := hS; go_simp; try with_reducible rfl) ?_)
                  try simp only [Act.put, List.getElem_toArray, List.getElem_cons_succ, List.getElem_cons_zero, List.setIfInBounds_toArray, List.set_cons_zero, List.set_cons_succ]
                  first | (refine Wk.skip (m := 15) (k := 24) rfl (by rfl) ?_) | (refine Wk.step (m := 15) (k := 24) (v := _) rfl (by rfl) (fun wv hS => by obtain ⟨s0, s1, s2, s3, s4, s5, s6, s7, s8, s9⟩ := hS; go_simp; try with_reducible rfl) ?_)
                  try simp only [Act.put, List.getElem_toArray, List.getElem_cons_succ, List.getElem_cons_zero, List.setIfInBounds_toArray, List.set_cons_zero, List.set_cons_succ]
                  first | (refine Wk.skip (m := 14) (k := 25) rfl (by rfl) ?_) | (refine Wk.step (m := 14) (k := 25) (v := _) rfl (by rfl) (fun wv hS => by obtain ⟨s0, s1, s2, s3, s4, s5, s6, s7, s8, s9⟩ := hS; go_simp; try with_reducible rfl) ?_)
                  try simp only [Act.put, List.getElem_toArray, List.getElem_cons_succ, List.getElem_cons_zero, List.setIfInBounds_toArray, List.set_cons_zero, List.set_cons_succ]
                  first | (refine Wk.skip (m := 13) (k := 26) rfl (by rfl) ?_) | (refine Wk.step (m := 13) (k := 26) (v := _) rfl (by rfl) (fun wv hS => by obtain ⟨s0, s1, s2, s3, s4, s5, s6, s7, s8, s9⟩ := hS; go_simp; try with_reducible rfl) ?_)
                  try simp only [Act.put, List.getElem_toArray, List.getElem_cons_succ, List.getElem_cons_zero, List.setIfInBounds_toArray, List.set_cons_zero, List.set_cons_succ]
                  first | (refine Wk.skip (m := 12) (k := 27) rfl (by rfl) ?_) | (refine Wk.step (m := 12) (k := 27) (v := _) rfl (by rfl) (fun wv hS => by obtain ⟨s0, s1, s2, s3, s4, s5, s6, s7, s8, s9⟩ := hS; go_simp; try with_reducible rfl) ?_)
                  try simp only [Act.put, List.getElem_toArray, List.getElem_cons_succ, List.getElem_cons_zero, List.setIfInBounds_toArray, List.set_cons_zero, List.set_cons_succ]
                  first | (refine Wk.skip (m := 11) (k := 28) rfl (by rfl) ?_) | (refine Wk.step (m := 11) (k := 28) (v := _) rfl (by rfl) (fun wv hS => by obtain ⟨s0, s1, s2, s3, s4, s5, s6, s7, s8, s9⟩ := hS; go_simp; try with_reducible rfl) ?_)
                  try simp only [Act.put, List.getElem_toArray, List.getElem_cons_succ, List.getElem_cons_zero, List.setIfInBounds_toArray, List.set_cons_zero, List.set_cons_succ]
                  first | (refine Wk.skip (m := 10) (k := 29) rfl (by rfl) ?_) | (refine Wk.step (m := 10) (k := 29) (v := _) rfl (by rfl) (fun wv hS => by obtain ⟨s0, s1, s2, s3, s4, s5, s6, s7, s8, s9⟩ := hS; go_simp; try with_reducible rfl) ?_)
                  try simp only [Act.put, List.getElem_toArray, List.getElem_cons_succ, List.getElem_cons_zero, List.setIfInBounds_toArray, List.set_cons_zero, List.set_cons_succ]
                  first | (refine Wk.skip (m := 9) (k := 30) rfl (by rfl) ?_) | (refine Wk.step (m := 9) (k := 30) (v := _) rfl (by rfl) (fun wv hS => by obtain ⟨s0, s1, s2, s3, s4, s5, s6, s7, s8, s9⟩ := hS; go_simp; try with_reducible rfl) ?_)
                  try simp only [Act.put, List.getElem_toArray, List.getElem_cons_succ, List.getElem_cons_zero, List.setIfInBounds_toArray, List.set_cons_zero, List.set_cons_succ]
                  first | (refine Wk.skip (m := 8) (k := 31) rfl (by rfl) ?_) | (refine Wk.step (m := 8) (k := 31) (v := _) rfl (by rfl) (fun wv hS => by obtain ⟨s0, s1, s2, s3, s4, s5, s6, s7, s8, s9⟩ := hS; go_simp; try with_reducible rfl) ?_)
                  try simp only [Act.put, List.getElem_toArray, List.getElem_cons_succ, List.getElem_cons_zero, List.setIfInBounds_toArray, List.set_cons_zero, List.set_cons_succ]
                  first | (refine Wk.skip (m := 7) (k := 32) rfl (by rfl) ?_) | (refine Wk.step (m := 7) (k := 32) (v := _) rfl (by rfl) (fun wv hS => by obtain ⟨s0, s1, s2, s3, s4, s5, s6, s7, s8, s9⟩ := hS; go_simp; try with_reducible rfl) ?_)
                  try simp only [Act.put, List.getElem_toArray, List.getElem_cons_succ, List.getElem_cons_zero, List.setIfInBounds_toArray, List.set_cons_zero, List.set_cons_succ]
                  first | (refine Wk.skip (m := 6) (k := 33) rfl (by rfl) ?_) | (refine Wk.step (m := 6) (k := 33) (v := _) rfl (by rfl) (fun wv hS => by obtain ⟨s0, s1, s2, s3, s4, s5, s6, s7, s8, s9⟩ := hS; go_simp; try with_reducible rfl) ?_)
                  try simp only [Act.put, List.getElem_toArray, List.getElem_cons_succ, List.getElem_cons_zero, List.setIfInBounds_toArray, List.set_cons_zero, List.set_cons_succ]
                  first | (refine Wk.skip (m := 5) (k := 34) rfl (by rfl) ?_) | (refine Wk.step (m := 5) (k := 34) (v := _) rfl (by rfl) (fun wv hS => by obtain ⟨s0, s1, s2, s3, s4, s5, s6, s7, s8, s9⟩ := hS; go_simp; try with_reducible rfl) ?_)
                  try simp only [Act.put, List.getElem_toArray, List.getElem_cons_succ, List.getElem_cons_zero, List.setIfInBounds_toArray, List.set_cons_zero, List.set_cons_succ]
                  first | (refine Wk.skip (m := 4) (k := 35) rfl (by rfl) ?_) | (refine Wk.step (m := 4) (k := 35) (v := _) rfl (by rfl) (fun wv hS => by obtain ⟨s0, s1, s2, s3, s4, s5, s6, s7, s8, s9⟩ := hS; go_simp; try with_reducible rfl) ?_)
                  try simp only [Act.put, List.getElem_toArray, List.getElem_cons_succ, List.getElem_cons_zero, List.setIfInBounds_toArray, List.set_cons_zero, List.set_cons_succ]
                  first | (refine Wk.skip (m := 3) (k := 36) rfl (by rfl) ?_) | (refine Wk.step (m := 3) (k := 36) (v := _) rfl (by rfl) (fun wv hS => by obtain ⟨s0, s1, s2, s3, s4, s5, s6, s7, s8, s9⟩ := hS; go_simp; try with_reducible rfl) ?_)
                  try simp only [Act.put, List.getElem_toArray, List.getElem_cons_succ, List.getElem_cons_zero, List.setIfInBounds_toArray, List.set_cons_zero, List.set_cons_succ]
                  first | (refine Wk.skip (m := 2) (k := 37) rfl (by rfl) ?_) | (refine Wk.step (m := 2) (k := 37) (v := _) rfl (by rfl) (fun wv hS => by obtain ⟨s0, s1, s2, s3, s4, s5, s6, s7, s8, s9⟩ := hS; go_simp; try with_reducible rfl) ?_)
                  try simp only [Act.put, List.getElem_toArray, List.getElem_cons_succ, List.getElem_cons_zero, List.setIfInBounds_toArray, List.set_cons_zero, List.set_cons_succ]
                  first | (refine Wk.skip (m := 1) (k := 38) rfl (by rfl) ?_) | (refine Wk.step (m := 1) (k := 38) (v := _) rfl (by rfl) (fun wv hS => by obtain ⟨s0, s1, s2, s3, s4, s5, s6, s7, s8, s9⟩ := hS; go_simp; try with_reducible rfl) ?_)
                  try simp only [Act.put, List.getElem_toArray, List.getElem_cons_succ, List.getElem_cons_zero, List.setIfInBounds_toArray, List.set_cons_zero, List.set_cons_succ]
                  first | (refine Wk.skip (m := 0) (k := 39) rfl (by rfl) ?_) | (refine Wk.step (m := 0) (k := 39) (v := _) rfl (by rfl) (fun wv hS => by obtain ⟨s0, s1, s2, s3, s4, s5, s6, s7, s8, s9⟩ := hS; go_simp; try with_reducible rfl) ?_)
                  try simp only [Act.put, List.getElem_toArray, List.getElem_cons_succ, List.getElem_cons_zero, List.setIfInBounds_toArray, List.set_cons_zero, List.set_cons_succ]
                  refine Wk.done fun wE hE => ?_
                  clear u1 u2 u3 u4 u5 u7 u8 u9 d3
                  obtain ⟨mE, u1, u2, u3, u4, u5, u7, u8, u9, d3⟩ := hE
                  go_wp2_with fail
                  go_ret
                  exact ⟨retB (by unfold vpkB restB; simp [HHB.out, K1.out]), (M0.trans hM).trans mE⟩
                · have K1 := Lib.hid h9'
                  clear h9'
                  cases h9' : inB x2 0 7
                  · have K2 := Lib.hid h9'
                    clear h9'
                    go_wp2_with fail
                    refine wp_region_wk (fun w' => Mk0 wr w' ∧ w'.cell? ⟨w.heap.size, 1, none⟩ = some (.int .i64 x1) ∧ w'.cell? ⟨w.heap.size, 2, none⟩ = some (.int .i64 x2) ∧ w'.cell? ⟨w.heap.size, 3, none⟩ = some (.slice (some ⟨b, off, none⟩) n3 c3) ∧ w'.cell? ⟨w.heap.size, 4, none⟩ = some (.int .i64 (k : Int)) ∧ w'.cell? ⟨w.heap.size, 5, none⟩ = some (.int .i64 x5) ∧ w'.cell? ⟨w.heap.size, 7, none⟩ = some (.int .i64 x7) ∧ w'.cell? ⟨w.heap.size, 8, none⟩ = some (.int .i64 x8) ∧ w'.cell? ⟨w.heap.size, 9, none⟩ = some (.slice a9 n9 c9) ∧ w'.cell? ⟨b, off + k * 4 + 3, none⟩ = some (.slice ah nh ch)) (by kernel_rfl) (by kernel_rfl) (⟨Mk.drew1 _, u1, u2, u3, u4, u5, u7, u8, u9, d3⟩) ?_
                    change Wk _ _ _ _ 40 0 _
                    first | (refine Wk.skip (m := 39) (k := 0) rfl (by rfl) ?_) | (refine Wk.step (m := 39) (k := 0) (v := _) rfl (by rfl) (fun wv hS => by obtain ⟨s0, s1, s2, s3, s4, s5, s6, s7, s8, s9⟩ := hS; go_simp; try with_reducible rfl) ?_)
                    try simp only [Act.put, List.getElem_toArray, List.getElem_cons_zero, List.setIfInBounds_toArray, List.set_cons_zero, List.set_cons_succ]
                    first | (refine Wk.skip (m := 38) (k := 1) rfl (by rfl) ?_) | (refine Wk.step (m := 38) (k := 1) (v := _) rfl (by rfl) (fun wv hS => by obtain ⟨s0, s1, s2, s3, s4, s5, s6, s7, s8, s9⟩ := hS; go_simp; try with_reducible rfl) ?_)
                    try simp only [Act.put, List.getElem_toArray, List.getElem_cons_succ, List.getElem_cons_zero, List.setIfInBounds_toArray, List.set_cons_zero, List.set_cons_succ]
                    first | (refine Wk.skip (m := 37) (k := 2) rfl (by rfl) ?_) | (refine Wk.step (m := 37) (k := 2) (v := _) rfl (by rfl) (fun wv hS => by obtain ⟨s0, s1, s2, s3, s4, s5, s6, s7, s8, s9⟩ := hS; go_simp; try with_reducible rfl) ?_)
                    try simp only [Act.put, List.getElem_toArray, List.getElem_cons_succ, List.getElem_cons_zero, List.setIfInBounds_toArray, List.set_cons_zero, List.set_cons_succ]
                    first | (refine Wk.skip (m := 36) (k := 3) rfl (by rfl) ?_) | (refine Wk.step (m := 36) (k := 3) (v := _) rfl (by rfl) (fun wv hS => by obtain ⟨s0, s1, s2, s3, s4, s5, s6, s7, s8, s9⟩ := hS; go_simp; try with_reducible rfl) ?_)
                    try simp only [Act.put, List.getElem_toArray, List.getElem_cons_succ, List.getElem_cons_zero, List.setIfInBounds_toArray, List.set_cons_zero, List.set_cons_succ]
                    first | (refine Wk.skip (m := 35) (k := 4) rfl (by rfl) ?_) | (refine Wk.step (m := 35) (k := 4) (v := _) rfl (by rfl) (fun wv hS => by obtain ⟨s0, s1, s2, s3, s4, s5, s6, s7, s8, s9⟩ := hS; go_simp; try with_reducible rfl) ?_)
                    try simp only [Act.put, List.getElem_toArray, List.getElem_cons_succ, List.getElem_cons_zero, List.setIfInBounds_toArray, List.set_cons_zero, List.set_cons_succ]
                    first | (refine Wk.skip (m := 34) (k := 5) rfl (by rfl) ?_) | (refine Wk.step (m := 34) (k := 5) (v := _) rfl (by rfl) (fun wv hS => by obtain ⟨s0, s1, s2, s3, s4, s5, s6, s7, s8, s9⟩ := hS; go_simp; try with_reducible rfl) ?_)
                    try simp only [Act.put, List.getElem_toArray, List.getElem_cons_succ, List.getElem_cons_zero, List.setIfInBounds_toArray, List.set_cons_zero, List.set_cons_succ]
                    first | (refine Wk.skip (m := 33) (k := 6) rfl (by rfl) ?_) | (refine Wk.step (m := 33) (k := 6) (v := _) rfl (by rfl) (fun wv hS => by obtain ⟨s0, s1, s2, s3, s4, s5, s6, s7, s8, s9⟩ := hS; go_simp; try with_reducible rfl) ?_)
                    try simp only [Act.put, List.getElem_toArray, List.getElem_cons_succ, List.getElem_cons_zero, List.setIfInBounds_toArray, List.set_cons_zero, List.set_cons_succ]
                    first | (refine Wk.skip (m := 32) (k := 7) rfl (by rfl) ?_) | (refine Wk.step (m := 32) (k := 7) (v := _) rfl (by rfl) (fun wv hS => by obtain ⟨s0, s1, s2, s3, s4, s5, s6, s7, s8, s9⟩ := hS; go_simp; try with_reducible rfl) ?_)
                    try simp only [Act.put, List.getElem_toArray, List.getElem_cons_succ, List.getElem_cons_zero, List.setIfInBounds_toArray, List.set_cons_zero, List.set_cons_succ]
                    first | (refine Wk.skip (m := 31) (k := 8) rfl (by rfl) ?_) | (refine Wk.step (m := 31) (k := 8) (v := _) rfl (by rfl) (fun wv hS => by obtain ⟨s0, s1, s2, s3, s4, s5, s6, s7, s8, s9⟩ := hS; go_simp; try with_reducible rfl) ?_)
                    try simp only [Act.put, List.getElem_toArray, List.getElem_cons_succ, List.getElem_cons_zero, List.setIfInBounds_toArray, List.set_cons_zero, List.set_cons_succ]
                    first | (refine Wk.skip (m := 30) (k := 9) rfl (by rfl) ?_) | (refine Wk.step (m := 30) (k := 9) (v := _) rfl (by rfl) (fun wv hS => by obtain ⟨s0, s1, s2, s3, s4, s5, s6, s7, s8, s9⟩ := hS; go_simp; try with_reducible rfl) ?_)
                    try simp only [Act.put, List.getElem_toArray, List.getElem_cons_succ, List.getElem_cons_zero, List.setIfInBounds_toArray, List.set_cons_zero, List.set_cons_succ]
                    first | (refine Wk.skip (m := 29) (k := 10) rfl (by rfl) ?_) | (refine Wk.step (m := 29) (k := 10) (v := _) rfl (by rfl) (fun wv hS => by obtain ⟨s0, s1, s2, s3, s4, s5, s6, s7, s8, s9⟩ := hS; go_simp; try with_reducible rfl) ?_)
                    try simp only [Act.put, List.getElem_toArray, List.getElem_cons_succ, List.getElem_cons_zero, List.setIfInBounds_toArray, List.set_cons_zero, List.set_cons_succ]
                    first | (refine Wk.skip (m := 28) (k := 11) rfl (by rfl) ?_) | (refine Wk.step (m := 28) (k := 11) (v := _) rfl (by rfl) (fun wv hS => by obtain ⟨s0, s1, s2, s3, s4, s5, s6, s7, s8, s9⟩ := hS; go_simp; try with_reducible rfl) ?_)
                    try simp only [Act.put, List.getElem_toArray, List.getElem_cons_succ, List.getElem_cons_zero, List.setIfInBounds_toArray, List.set_cons_zero, List.set_cons_succ]
                    refine Wk.call (m := 27) (k := 12) (v := .bool true) _ _ rfl (by rfl) (fun wv hS => by obtain ⟨s0, s1, s2, s3, s4, s5, s6, s7, s8, s9⟩ := hS; go_simp; first | done | exact ⟨rfl, rfl⟩ | with_reducible rfl) (fun wv hS => ?_) ?_; · obtain ⟨s0, s1, s2, s3, s4, s5, s6, s7, s8, s9⟩ := hS; refine (specIn _ _ _ wv).mono ?_; rintro e w' ⟨he, rfl⟩; exact ⟨by rw [he]; first | rw [K0.out] | rw [hwh, K0.out], s0, s1, s2, s3, s4, s5, s6, s7, s8, s9⟩
                    try simp only [Act.put, List.getElem_toArray, List.getElem_cons_succ, List.getElem_cons_zero, List.setIfInBounds_toArray, List.set_cons_zero, List.set_cons_succ]
                    first | (refine Wk.skip (m := 26) (k := 13) rfl (by rfl) ?_) | (refine Wk.step (m := 26) (k := 13) (v := _) rfl (by rfl) (fun wv hS => by obtain ⟨s0, s1, s2, s3, s4, s5, s6, s7, s8, s9⟩ := hS; go_simp; try with_reducible rfl) ?_)
                    try simp only [Act.put, List.getElem_toArray, List.getElem_cons_succ, List.getElem_cons_zero, List.setIfInBounds_toArray, List.set_cons_zero, List.set_cons_succ]
                    first | (refine Wk.skip (m := 25) (k := 14) rfl (by rfl) ?_) | (refine Wk.step (m := 25) (k := 14) (v := _) rfl (by rfl) (fun wv hS => by obtain ⟨s0, s1, s2, s3, s4, s5, s6, s7, s8, s9⟩ := hS; go_simp; try with_reducible rfl) ?_)
                    try simp only [Act.put, List.getElem_toArray, List.getElem_cons_succ, List.getElem_cons_zero, List.setIfInBounds_toArray, List.set_cons_zero, List.set_cons_succ]
                    first | (refine Wk.skip (m := 24) (k := 15) rfl (by rfl) ?_) | (refine Wk.step (m := 24) (k := 15) (v := _) rfl (by rfl) (fun wv hS => by obtain ⟨s0, s1, s2, s3, s4, s5, s6, s7, s8, s9⟩ := hS; go_simp; try with_reducible rfl) ?_)
                    try simp only [Act.put, List.getElem_toArray, List.getElem_cons_succ, List.getElem_cons_zero, List.setIfInBounds_toArray, List.set_cons_zero, List.set_cons_succ]
                    refine Wk.call (m := 23) (k := 16) (v := .bool true) _ _ rfl (by rfl) (fun wv hS => by obtain ⟨s0, s1, s2, s3, s4, s5, s6, s7, s8, s9⟩ := hS; go_simp; first | done | exact ⟨rfl, rfl⟩ | with_reducible rfl) (fun wv hS => ?_) ?_; · obtain ⟨s0, s1, s2, s3, s4, s5, s6, s7, s8, s9⟩ := hS; refine (specIn _ _ _ wv).mono ?_; rintro e w' ⟨he, rfl⟩; exact ⟨by rw [he]; first | rw [K1.out] | rw [hwh, K1.out], s0, s1, s2, s3, s4, s5, s6, s7, s8, s9⟩
                    try simp only [Act.put, List.getElem_toArray, List.getElem_cons_succ, List.getElem_cons_zero, List.setIfInBounds_toArray, List.set_cons_zero, List.set_cons_succ]
                    first | (refine Wk.skip (m := 22) (k := 17) rfl (by rfl) ?_) | (refine Wk.step (m := 22) (k := 17) (v := _) rfl (by rfl) (fun wv hS => by obtain ⟨s0, s1, s2, s3, s4, s5, s6, s7, s8, s9⟩ := hS; go_simp; try with_reducible rfl) ?_)
                    try simp only [Act.put, List.getElem_toArray, List.getElem_cons_succ, List.getElem_cons_zero, List.setIfInBounds_toArray, List.set_cons_zero, List.set_cons_succ]
                    first | (refine Wk.skip (m := 21) (k := 18) rfl (by rfl) ?_) | (refine Wk.step (m := 21) (k := 18) (v := _) rfl (by rfl) (fun wv hS => by obtain ⟨s0, s1, s2, s3, s4, s5, s6, s7, s8, s9⟩ := hS; go_simp; try with_reducible rfl) ?_)
                    try simp only [Act.put, List.getElem_toArray, List.getElem_cons_succ, List.getElem_cons_zero, List.setIfInBounds_toArray, List.set_cons_zero, List.set_cons_succ]
                    first | (refine Wk.skip (m := 20) (k := 19) rfl (by rfl) ?_) | (refine Wk.step (m := 20) (k := 19) (v := _) rfl (by rfl) (fun wv hS => by obtain ⟨s0, s1, s2, s3, s4, s5, s6, s7, s8, s9⟩ := hS; go_simp; try with_reducible rfl) ?_)
                    try simp only [Act.put, List.getElem_toArray, List.getElem_cons_succ, List.getElem_cons_zero, List.setIfInBounds_toArray, List.set_cons_zero, List.set_cons_succ]
                    first | (refine Wk.skip (m := 19) (k := 20) rfl (by rfl) ?_) | (refine Wk.step (m := 19) (k := 20) (v := _) rfl (by rfl) (fun wv hS => by obtain ⟨s0, s1, s2, s3, s4, s5, s6, s7, s8, s9⟩ := hS; go_simp; try with_reducible rfl) ?_)
                    try simp only [Act.put, List.getElem_toArray, List.getElem_cons_succ, List.getElem_cons_zero, List.setIfInBounds_toArray, List.set_cons_zero, List.set_cons_succ]
                    refine Wk.call (m := 18) (k := 21) (v := .bool false) _ _ rfl (by rfl) (fun wv hS => by obtain ⟨s0, s1, s2, s3, s4, s5, s6, s7, s8, s9⟩ := hS; go_simp; first | done | exact ⟨rfl, rfl⟩ | with_reducible rfl) (fun wv hS => ?_) ?_; · obtain ⟨s0, s1, s2, s3, s4, s5, s6, s7, s8, s9⟩ := hS; refine (specIn _ _ _ wv).mono ?_; rintro e w' ⟨he, rfl⟩; exact ⟨by rw [he]; first | rw [K2.out] | rw [hwh, K2.out], s0, s1, s2, s3, s4, s5, s6, s7, s8, s9⟩
                    try simp only [Act.put, List.getElem_toArray, List.getElem_cons_succ, List.getElem_cons_zero, List.setIfInBounds_toArray, List.set_cons_zero, List.set_cons_succ]
                    first | (refine Wk.skip (m := 17) (k := 22) rfl (by rfl) ?_) | (refine Wk.step (m := 17) (k := 22) (v := _) rfl (by rfl) (fun wv hS => by obtain ⟨s0, s1, s2, s3, s4, s5, s6, s7, s8, s9⟩ := hS; go_simp; try with_reducible rfl) ?_)
                    try simp only [Act.put, List.getElem_toArray, List.getElem_cons_succ, List.getElem_cons_zero, List.setIfInBounds_toArray, List.set_cons_zero, List.set_cons_succ]
                    first | (refine Wk.skip (m := 16) (k := 23) rfl (by rfl) ?_) | (refine Wk.step (m := 16) (k := 23) (v := _) rfl (by rfl) (fun wv hS => by obtain ⟨s0, s1, s2, s3, s4, s5, s6, s7, s8, s9⟩ := hS; go_simp; try with_reducible rfl) ?_)
                    try simp only [Act.put, List.getElem_toArray, List.getElem_cons_succ, List.getElem_cons_zero, List.setIfInBounds_toArray, List.set_cons_zero, List.set_cons_succ]
                    first | (refine Wk.skip (m := 15) (k := 24) rfl (by rfl) ?_) | (refine Wk.step (m := 15) (k := 24) (v := _) rfl (by rfl) (fun wv hS => by obtain ⟨s0, s1, s2, s3, s4, s5, s6, s7, s8, s9⟩ := hS; go_simp; try with_reducible rfl) ?_)
                    try simp only [Act.put, List.getElem_toArray, List.getElem_cons_succ, List.getElem_cons_zero, List.setIfInBounds_toArray, List.set_cons_zero, List.set_cons_succ]
                    first | (refine Wk.skip (m := 14) (k := 25) rfl (by rfl) ?_) | (refine Wk.step (m := 14) (k := 25) (v := _) rfl (by rfl) (fun wv hS => by obtain ⟨s0, s1, s2, s3, s4, s5, s6, s7, s8, s9⟩ := hS; go_simp; try with_reducible rfl) ?_)
                    try simp only [Act.put, List.getElem_toArray, List.getElem_cons_succ, List.getElem_cons_zero, List.setIfInBounds_toArray, List.set_cons_zero, List.set_cons_succ]
                    first | (refine Wk.skip (m := 13) (k := 26) rfl (by rfl) ?_) | (refine Wk.step (m := 13) (k := 26) (v := _) rfl (by rfl) (fun wv hS => by obtain ⟨s0, s1, s2, s3, s4, s5, s6, s7, s8, s9⟩ := hS; go_simp; try with_reducible rfl) ?_)
                    try simp only [Act.put, List.getElem_toArray, List.getElem_cons_succ, List.getElem_cons_zero, List.setIfInBounds_toArray, List.set_cons_zero, List.set_cons_succ]
                    first | (refine Wk.skip (m := 12) (k := 27) rfl (by rfl) ?_) | (refine Wk.step (m := 12) (k := 27) (v := _) rfl (by rfl) (fun wv hS => by obtain ⟨s0, s1, s2, s3, s4, s5, s6, s7, s8, s9⟩ := hS; go_simp; try with_reducible rfl) ?_)
                    try simp only [Act.put, List.getElem_toArray, List.getElem_cons_succ, List.getElem_cons_zero, List.setIfInBounds_toArray, List.set_cons_zero, List.set_cons_succ]
                    first | (refine Wk.skip (m := 11) (k := 28) rfl (by rfl) ?_) | (refine Wk.step (m := 11) (k := 28) (v := _) rfl (by rfl) (fun wv hS => by obtain ⟨s0, s1, s2, s3, s4, s5, s6, s7, s8, s9⟩ := hS; go_simp; try with_reducible rfl) ?_)
                    try simp only [Act.put, List.getElem_toArray, List.getElem_cons_succ, List.getElem_cons_zero, List.setIfInBounds_toArray, List.set_cons_zero, List.set_cons_succ]
                    first | (refine Wk.skip (m := 10) (k := 29) rfl (by rfl) ?_) | (refine Wk.step (m := 10) (k := 29) (v := _) rfl (by rfl) (fun wv hS => by obtain ⟨s0, s1, s2, s3, s4, s5, s6, s7, s8, s9⟩ := hS; go_simp; try with_reducible rfl) ?_)
                    try simp only [Act.put, List.getElem_toArray, List.getElem_cons_succ, List.getElem_cons_zero, List.setIfInBounds_toArray, List.set_cons_zero, List.set_cons_succ]
                    first | (refine Wk.skip (m := 9) (k := 30) rfl (by rfl) ?_) | (refine Wk.step (m := 9) (k := 30) (v := _) rfl (by rfl) (fun wv hS => by obtain ⟨s0, s1, s2, s3, s4, s5, s6, s7, s8, s9⟩ := hS; go_simp; try with_reducible rfl) ?_)
                    try simp only [Act.put, List.getElem_toArray, List.getElem_cons_succ, List.getElem_cons_zero, List.setIfInBounds_toArray, List.set_cons_zero, List.set_cons_succ]
                    first | (refine Wk.skip (m := 8) (k := 31) rfl (by rfl) ?_) | (refine Wk.step (m := 8) (k := 31) (v := _) rfl (by rfl) (fun wv hS => by obtain ⟨s0, s1, s2, s3, s4, s5, s6, s7, s8, s9⟩ := hS; go_simp; try with_reducible rfl) ?_)
                    try simp only [Act.put, List.getElem_toArray, List.getElem_cons_succ, List.getElem_cons_zero, List.setIfInBounds_toArray, List.set_cons_zero, List.set_cons_succ]
                    first | (refine Wk.skip (m := 7) (k := 32) rfl (by rfl) ?_) | (refine Wk.step (m := 7) (k := 32) (v := _) rfl (by rfl) (fun wv hS => by obtain ⟨s0, s1, s2, s3, s4, s5, s6, s7, s8, s9⟩ := hS; go_simp; try with_reducible rfl) ?_)
                    try simp only [Act.put, List.getElem_toArray, List.getElem_cons_succ, List.getElem_cons_zero, List.setIfInBounds_toArray, List.set_cons_zero, List.set_cons_succ]
                    first | (refine Wk.skip (m := 6) (k := 33) rfl (by rfl) ?_) | (refine Wk.step (m := 6) (k := 33) (v := _) rfl (by rfl) (fun wv hS => by obtain ⟨s0, s1, s2, s3, s4, s5, s6, s7, s8, s9⟩ := hS; go_simp; try with_reducible rfl) ?_)
                    try simp only [Act.put, List.getElem_toArray, List.getElem_cons_succ, List.getElem_cons_zero, List.setIfInBounds_toArray, List.set_cons_zero, List.set_cons_succ]
                    first | (refine Wk.skip (m := 5) (k := 34) rfl (by rfl) ?_) | (refine Wk.step (m := 5) (k := 34) (v := _) rfl (by rfl) (fun wv hS => by obtain ⟨s0, s1, s2, s3, s4, s5, s6, s7, s8, s9⟩ := hS; go_simp; try with_reducible rfl) ?_)
                    try simp only [Act.put, List.getElem_toArray, List.getElem_cons_succ, List.getElem_cons_zero, List.setIfInBounds_toArray, List.set_cons_zero, List.set_cons_succ]
                    first | (refine Wk.skip (m := 4) (k := 35) rfl (by rfl) ?_) | (refine Wk.step (m := 4) (k := 35) (v := _) rfl (by rfl) (fun wv hS => by obtain ⟨s0, s1, s2, s3, s4, s5, s6, s7, s8, s9⟩ := hS; go_simp; try with_reducible rfl) ?_)
                    try simp only [Act.put, List.getElem_toArray, List.getElem_cons_succ, List.getElem_cons_zero, List.setIfInBounds_toArray, List.set_cons_zero, List.set_cons_succ]
                    first | (refine Wk.skip (m := 3) (k := 36) rfl (by rfl) ?_) | (refine Wk.step (m := 3) (k := 36) (v := _) rfl (by rfl) (fun wv hS => by obtain ⟨s0, s1, s2, s3, s4, s5, s6, s7, s8, s9⟩ := hS; go_simp; try with_reducible rfl) ?_)
                    try simp only [Act.put, List.getElem_toArray, List.getElem_cons_succ, List.getElem_cons_zero, List.setIfInBounds_toArray, List.set_cons_zero, List.set_cons_succ]
                    first | (refine Wk.skip (m := 2) (k := 37) rfl (by rfl) ?_) | (refine Wk.step (m := 2) (k := 37) (v := _) rfl (by rfl) (fun wv hS => by obtain ⟨s0, s1, s2, s3, s4, s5, s6, s7, s8, s9⟩ := hS; go_simp; try with_reducible rfl) ?_)
                    try simp only [Act.put, List.getElem_toArray, List.getElem_cons_succ, List.getElem_cons_zero, List.setIfInBounds_toArray, List.set_cons_zero, List.set_cons_succ]
                    first | (refine Wk.skip (m := 1) (k := 38) rfl (by rfl) ?_) | (refine Wk.step (m := 1) (k := 38) (v := _) rfl (by rfl) (fun wv hS => by obtain ⟨s0, s1, s2, s3, s4, s5, s6, s7, s8, s9⟩ := hS; go_simp; try with_reducible rfl) ?_)
                    try simp only [Act.put, List.getElem_toArray, List.getElem_cons_succ, List.getElem_cons_zero, List.setIfInBounds_toArray, List.set_cons_zero, List.set_cons_succ]
                    first | (refine Wk.skip (m := 0) (k := 39) rfl (by rfl) ?_) | (refine Wk.step (m := 0) (k := 39) (v := _) rfl (by rfl) (fun wv hS => by obtain ⟨s0, s1, s2, s3, s4, s5, s6, s7, s8, s9⟩ := hS; go_simp; try with_reducible rfl) ?_)
                    try simp only [Act.put, List.getElem_toArray, List.getElem_cons_succ, List.getElem_cons_zero, List.setIfInBounds_toArray, List.set_cons_zero, List.set_cons_succ]
                    refine Wk.done fun wE hE => ?_
                    clear u1 u2 u3 u4 u5 u7 u8 u9 d3
                    obtain ⟨mE, u1, u2, u3, u4, u5, u7, u8, u9, d3⟩ := hE
                    go_wp2_with fail
                    go_ret
                    exact ⟨retB (by unfold vpkB restB; simp [HHB.out, K2.out]), (M0.trans hM).trans mE⟩
                  · have K2 := Lib.hid h9'
                    clear h9'
                    cases h9' : inB x7 0 100000
                    · have K3 := Lib.hid h9'
                      clear h9'
                      go_wp2_with fail
                      refine wp_region_wk (fun w' => Mk0 wr w' ∧ w'.cell? ⟨w.heap.size, 1, none⟩ = some (.int .i64 x1) ∧ w'.cell? ⟨w.heap.size, 2, none⟩ = some (.int .i64 x2) ∧ w'.cell? ⟨w.heap.size, 3, none⟩ = some (.slice (some ⟨b, off, none⟩) n3 c3) ∧ w'.cell? ⟨w.heap.size, 4, none⟩ = some (.int .i64 (k : Int)) ∧ w'.cell? ⟨w.heap.size, 5, none⟩ = some (.int .i64 x5) ∧ w'.cell? ⟨w.heap.size, 7, none⟩ = some (.int .i64 x7) ∧ w'.cell? ⟨w.heap.size, 8, none⟩ = some (.int .i64 x8) ∧ w'.cell? ⟨w.heap.size, 9, none⟩ = some (.slice a9 n9 c9) ∧ w'.cell? ⟨b, off + k * 4 + 3, none⟩ = some (.slice ah nh ch)) (by kernel_rfl) (by kernel_rfl) (⟨Mk.drew1 _, u1, u2, u3, u4, u5, u7, u8, u9, d3⟩) ?_
                      change Wk _ _ _ _ 40 0 _
                      first | (refine Wk.skip (m := 39) (k := 0) rfl (by rfl) ?_) | (refine Wk.step (m := 39) (k := 0) (v := _) rfl (by rfl) (fun wv hS => by obtain ⟨s0, s1, s2, s3, s4, s5, s6, s7, s8, s9⟩ := hS; go_simp; try with_reducible rfl) ?_)
                      try simp only [Act.put, List.getElem_toArray, List.getElem_cons_zero, List.setIfInBounds_toArray, List.set_cons_zero, List.set_cons_succ]
                      first | (refine Wk.skip (m := 38) (k := 1) rfl (by rfl) ?_) | (refine Wk.step (m := 38) (k := 1) (v := _) rfl (by rfl) (fun wv hS => by obtain ⟨s0, s1, s2, s3, s4, s5, s6, s7, s8, s9⟩ := hS; go_simp; try with_reducible rfl) ?_)
                      try simp only [Act.put, List.getElem_toArray, List.getElem_cons_succ, List.getElem_cons_zero, List.setIfInBounds_toArray, List.set_cons_zero, List.set_cons_succ]
                      first | (refine Wk.skip (m := 37) (k := 2) rfl (by rfl) ?_) | (refine Wk.step (m := 37) (k := 2) (v := _) rfl (by rfl) (fun wv hS => by obtain ⟨s0, s1, s2, s3, s4, s5, s6, s7, s8, s9⟩ := hS; go_simp; try with_reducible rfl) ?_)
                      try simp only [Act.put, List.getElem_toArray, List.getElem_cons_succ, List.getElem_cons_zero, List.setIfInBounds_toArray, List.set_cons_zero, List.set_cons_succ]
                      first | (refine Wk.skip (m := 36) (k := 3) rfl (by rfl) ?_) | (refine Wk.step (m := 36) (k := 3) (v := _) rfl (by rfl) (fun wv hS => by obtain ⟨s0, s1, s2, s3, s4, s5, s6, s7, s8, s9⟩ := hS; go_simp; try with_reducible rfl) ?_)
                      try simp only [Act.put, List.getElem_toArray, List.getElem_cons_succ, List.getElem_cons_zero, List.setIfInBounds_toArray, List.set_cons_zero, List.set_cons_succ]
                      first | (refine Wk.skip (m := 35) (k := 4) rfl (by rfl) ?_) | (refine Wk.step (m := 35) (k := 4) (v := _) rfl (by rfl) (fun wv hS => by obtain ⟨s0, s1, s2, s3, s4, s5, s6, s7, s8, s9⟩ := hS; go_simp; try with_reducible rfl) ?_)
                      try simp only [Act.put, List.getElem_toArray, List.getElem_cons_succ, List.getElem_cons_zero, List.setIfInBounds_toArray, List.set_cons_zero, List.set_cons_succ]
                      first | (refine Wk.skip (m := 34) (k := 5) rfl (by rfl) ?_) | (refine Wk.step (m := 34) (k := 5) (v := _) rfl (by rfl) (fun wv hS => by obtain ⟨s0, s1, s2, s3, s4, s5, s6, s7, s8, s9⟩ := hS; go_simp; try with_reducible rfl) ?_)
                      try simp only [Act.put, List.getElem_toArray, List.getElem_cons_succ, List.getElem_cons_zero, List.setIfInBounds_toArray, List.set_cons_zero, List.set_cons_succ]
                      first | (refine Wk.skip (m := 33) (k := 6) rfl (by rfl) ?_) | (refine Wk.step (m := 33) (k := 6) (v := _) rfl (by rfl) (fun wv hS => by obtain ⟨s0, s1, s2, s3, s4, s5, s6, s7, s8, s9⟩ := hS; go_simp; try with_reducible rfl) ?_)
                      try simp only [Act.put, List.getElem_toArray, List.getElem_cons_succ, List.getElem_cons_zero, List.setIfInBounds_toArray, List.set_cons_zero, List.set_cons_succ]
                      first | (refine Wk.skip (m := 32) (k := 7) rfl (by rfl) ?_) | (refine Wk.step (m := 32) (k := 7) (v := _) rfl (by rfl) (fun wv hS => by obtain ⟨s0, s1, s2, s3, s4, s5, s6, s7, s8, s9⟩ := hS; go_simp; try with_reducible rfl) ?_)
                      try simp only [Act.put, List.getElem_toArray, List.getElem_cons_succ, List.getElem_cons_zero, List.setIfInBounds_toArray, List.set_cons_zero, List.set_cons_succ]
                      first | (refine Wk.skip (m := 31) (k := 8) rfl (by rfl) ?_) | (refine Wk.step (m := 31) (k := 8) (v := _) rfl (by rfl) (fun wv hS => by obtain ⟨s0, s1, s2, s3, s4, s5, s6, s7, s8, s9⟩ := hS; go_simp; try with_reducible rfl) ?_)
                      try simp only [Act.put, List.getElem_toArray, List.getElem_cons_succ, List.getElem_cons_zero, List.setIfInBounds_toArray, List.set_cons_zero, List.set_cons_succ]
                      first | (refine Wk.skip (m := 30) (k := 9) rfl (by rfl) ?_) | (refine Wk.step (m := 30) (k := 9) (v := _) rfl (by rfl) (fun wv hS => by obtain ⟨s0, s1, s2, s3, s4, s5, s6, s7, s8, s9⟩ := hS; go_simp; try with_reducible rfl) ?_)
                      try simp only [Act.put, List.getElem_toArray, List.getElem_cons_succ, List.getElem_cons_zero, List.setIfInBounds_toArray, List.set_cons_zero, List.set_cons_succ]
                      first | (refine Wk.skip (m := 29) (k := 10) rfl (by rfl) ?_) | (refine Wk.step (m := 29) (k := 10) (v := _) rfl (by rfl) (fun wv hS => by obtain ⟨s0, s1, s2, s3, s4, s5, s6, s7, s8, s9⟩ := hS; go_simp; try with_reducible rfl) ?_)
                      try simp only [Act.put, List.getElem_toArray, List.getElem_cons_succ, List.getElem_cons_zero, List.setIfInBounds_toArray, List.set_cons_zero, List.set_cons_succ]
                      first | (refine Wk.skip (m := 28) (k := 11) rfl (by rfl) ?_) | (refine Wk.step (m := 28) (k := 11) (v := _) rfl (by rfl) (fun wv hS => by obtain ⟨s0, s1, s2, s3, s4, s5, s6, s7, s8, s9⟩ := hS; go_simp; try with_reducible rfl) ?_)
                      try simp only [Act.put, List.getElem_toArray, List.getElem_cons_succ, List.getElem_cons_zero, List.setIfInBounds_toArray, List.set_cons_zero, List.set_cons_succ]
                      refine Wk.call (m := 27) (k := 12) (v := .bool true) _ _ rfl (by rfl) (fun wv hS => by obtain ⟨s0, s1, s2, s3, s4, s5, s6, s7, s8, s9⟩ := hS; go_simp; first | done | exact ⟨rfl, rfl⟩ | with_reducible rfl) (fun wv hS => ?_) ?_; · obtain ⟨s0, s1, s2, s3, s4, s5, s6, s7, s8, s9⟩ := hS; refine (specIn _ _ _ wv).mono ?_; rintro e w' ⟨he, rfl⟩; exact ⟨by rw [he]; first | rw [K0.out] | rw [hwh, K0.out], s0, s1, s2, s3, s4, s5, s6, s7, s8, s9⟩
                      try simp only [Act.put, List.getElem_toArray, List.getElem_cons_succ, List.getElem_cons_zero, List.setIfInBounds_toArray, List.set_cons_zero, List.set_cons_succ]
                      first | (refine Wk.skip (m := 26) (k := 13) rfl (by rfl) ?_) | (refine Wk.step (m := 26) (k := 13) (v := _) rfl (by rfl) (fun wv hS => by obtain ⟨s0, s1, s2, s3, s4, s5, s6, s7, s8, s9⟩ := hS; go_simp; try with_reducible rfl) ?_)
                      try simp only [Act.put, List.getElem_toArray, List.getElem_cons_succ, List.getElem_cons_zero, List.setIfInBounds_toArray, List.set_cons_zero, List.set_cons_succ]
                      first | (refine Wk.skip (m := 25) (k := 14) rfl (by rfl) ?_) | (refine Wk.step (m := 25) (k := 14) (v := _) rfl (by rfl) (fun wv hS => by obtain ⟨s0, s1, s2, s3, s4, s5, s6, s7, s8, s9⟩ := hS; go_simp; try with_reducible rfl) ?_)
                      try simp only [Act.put, List.getElem_toArray, List.getElem_cons_succ, List.getElem_cons_zero, List.setIfInBounds_toArray, List.set_cons_zero, List.set_cons_succ]
                      first | (refine Wk.skip (m := 24) (k := 15) rfl (by rfl) ?_) | (refine Wk.step (m := 24) (k := 15) (v := _) rfl (by rfl) (fun wv hS => by obtain ⟨s0, s1, s2, s3, s4, s5, s6, s7, s8, s9⟩ := hS; go_simp; try with_reducible rfl) ?_)
                      try simp only [Act.put, List.getElem_toArray, List.getElem_cons_succ, List.getElem_cons_zero, List.setIfInBounds_toArray, List.set_cons_zero, List.set_cons_succ]
                      refine Wk.call (m := 23) (k := 16) (v := .bool true) _ _ rfl (by rfl) (fun wv hS => by obtain ⟨s0, s1, s2, s3, s4, s5, s6, s7, s8, s9⟩ := hS; go_simp; first | done | exact ⟨rfl, rfl⟩ | with_reducible rfl) (fun wv hS => ?_) ?_; · obtain ⟨s0, s1, s2, s3, s4, s5, s6, s7, s8, s9⟩ := hS; refine (specIn _ _ _ wv).mono ?_; rintro e w' ⟨he, rfl⟩; exact ⟨by rw [he]; first | rw [K1.out] | rw [hwh, K1.out], s0, s1, s2, s3, s4, s5, s6, s7, s8, s9⟩
                      try simp only [Act.put, List.getElem_toArray, List.getElem_cons_succ, List.getElem_cons_zero, List.setIfInBounds_toArray, List.set_cons_zero, List.set_cons_succ]
                      first | (refine Wk.skip (m := 22) (k := 17) rfl (by rfl) ?_) | (refine Wk.step (m := 22) (k := 17) (v := _) rfl (by rfl) (fun wv hS => by obtain ⟨s0, s1, s2, s3, s4, s5, s6, s7, s8, s9⟩ := hS; go_simp; try with_reducible rfl) ?_)
                      try simp only [Act.put, List.getElem_toArray, List.getElem_cons_succ, List.getElem_cons_zero, List.setIfInBounds_toArray, List.set_cons_zero, List.set_cons_succ]
                      first | (refine Wk.skip (m := 21) (k := 18) rfl (by rfl) ?_) | (refine Wk.step (m := 21) (k := 18) (v := _) rfl (by rfl) (fun wv hS => by obtain ⟨s0, s1, s2, s3, s4, s5, s6, s7, s8, s9⟩ := hS; go_simp; try with_reducible rfl) ?_)
                      try simp only [Act.put, List.getElem_toArray, List.getElem_cons_succ, List.getElem_cons_zero, List.setIfInBounds_toArray, List.set_cons_zero, List.set_cons_succ]
                      first | (refine Wk.skip (m := 20) (k := 19) rfl (by rfl) ?_) | (refine Wk.step (m := 20) (k := 19) (v := _) rfl (by rfl) (fun wv hS => by obtain ⟨s0, s1, s2, s3, s4, s5, s6, s7, s8, s9⟩ := hS; go_simp; try with_reducible rfl) ?_)
                      try simp only [Act.put, List.getElem_toArray, List.getElem_cons_succ, List.getElem_cons_zero, List.setIfInBounds_toArray, List.set_cons_zero, List.set_cons_succ]
                      first | (refine Wk.skip (m := 19) (k := 20) rfl (by rfl) ?_) | (refine Wk.step (m := 19) (k := 20) (v := _) rfl (by rfl) (fun wv hS => by obtain ⟨s0, s1, s2, s3, s4, s5, s6, s7, s8, s9⟩ := hS; go_simp; try with_reducible rfl) ?_)
                      try simp only [Act.put, List.getElem_toArray, List.getElem_cons_succ, List.getElem_cons_zero, List.setIfInBounds_toArray, List.set_cons_zero, List.set_cons_succ]
                      refine Wk.call (m := 18) (k := 21) (v := .bool true) _ _ rfl (by rfl) (fun wv hS => by obtain ⟨s0, s1, s2, s3, s4, s5, s6, s7, s8, s9⟩ := hS; go_simp; first | done | exact ⟨rfl, rfl⟩ | with_reducible rfl) (fun wv hS => ?_) ?_; · obtain ⟨s0, s1, s2, s3, s4, s5, s6, s7, s8, s9⟩ := hS; refine (specIn _ _ _ wv).mono ?_; rintro e w' ⟨he, rfl⟩; exact ⟨by rw [he]; first | rw [K2.out] | rw [hwh, K2.out], s0, s1, s2, s3, s4, s5, s6, s7, s8, s9⟩
                      try simp only [Act.put, List.getElem_toArray, List.getElem_cons_succ, List.getElem_cons_zero, List.setIfInBounds_toArray, List.set_cons_zero, List.set_cons_succ]
                      first | (refine Wk.skip (m := 17) (k := 22) rfl (by rfl) ?_) | (refine Wk.step (m := 17) (k := 22) (v := _) rfl (by rfl) (fun wv hS => by obtain ⟨s0, s1, s2, s3, s4, s5, s6, s7, s8, s9⟩ := hS; go_simp; try with_reducible rfl) ?_)
                      try simp only [Act.put, List.getElem_toArray, List.getElem_cons_succ, List.getElem_cons_zero, List.setIfInBounds_toArray, List.set_cons_zero, List.set_cons_succ]
                      first | (refine Wk.skip (m := 16) (k := 23) rfl (by rfl) ?_) | (refine Wk.step (m := 16) (k := 23) (v := _) rfl (by rfl) (fun wv hS => by obtain ⟨s0, s1, s2, s3, s4, s5, s6, s7, s8, s9⟩ := hS; go_simp; try with_reducible rfl) ?_)
                      try simp only [Act.put, List.getElem_toArray, List.getElem_cons_succ, List.getElem_cons_zero, List.setIfInBounds_toArray, List.set_cons_zero, List.set_cons_succ]
                      first | (refine Wk.skip (m := 15) (k := 24) rfl (by rfl) ?_) | (refine Wk.step (m := 15) (k := 24) (v := _) rfl (by rfl) (fun wv hS => by obtain ⟨s0, s1, s2, s3, s4, s5, s6, s7, s8, s9⟩ := hS; go_simp; try with_reducible rfl) ?_)
                      try simp only [Act.put, List.getElem_toArray, List.getElem_cons_succ, List.getElem_cons_zero, List.setIfInBounds_toArray, List.set_cons_zero, List.set_cons_succ]
                      first | (refine Wk.skip (m := 14) (k := 25) rfl (by rfl) ?_) | (refine Wk.step (m := 14) (k := 25) (v := _) rfl (by rfl) (fun wv hS => by obtain ⟨s0, s1, s2, s3, s4, s5, s6, s7, s8, s9⟩ := hS; go_simp; try with_reducible rfl) ?_)
                      try simp only [Act.put, List.getElem_toArray, List.getElem_cons_succ, List.getElem_cons_zero, List.setIfInBounds_toArray, List.set_cons_zero, List.set_cons_succ]
                      refine Wk.call (m := 13) (k := 26) (v := .bool false) _ _ rfl (by rfl) (fun wv hS => by obtain ⟨s0, s1, s2, s3, s4, s5, s6, s7, s8, s9⟩ := hS; go_simp; first | done | exact ⟨rfl, rfl⟩ | with_reducible rfl) (fun wv hS => ?_) ?_; · obtain ⟨s0, s1, s2, s3, s4, s5, s6, s7, s8, s9⟩ := hS; refine (specIn _ _ _ wv).mono ?_; rintro e w' ⟨he, rfl⟩; exact ⟨by rw [he]; first | rw [K3.out] | rw [hwh, K3.out], s0, s1, s2, s3, s4, s5, s6, s7, s8, s9⟩
                      try simp only [Act.put, List.getElem_toArray, List.getElem_cons_succ, List.getElem_cons_zero, List.setIfInBounds_toArray, List.set_cons_zero, List.set_cons_succ]
                      first | (refine Wk.skip (m := 12) (k := 27) rfl (by rfl) ?_) | (refine Wk.step (m := 12) (k := 27) (v := _) rfl (by rfl) (fun wv hS => by obtain ⟨s0, s1, s2, s3, s4, s5, s6, s7, s8, s9⟩ := hS; go_simp; try with_reducible rfl) ?_)
                      try simp only [Act.put, List.getElem_toArray, List.getElem_cons_succ, List.getElem_cons_zero, List.setIfInBounds_toArray, List.set_cons_zero, List.set_cons_succ]
                      first | (refine Wk.skip (m := 11) (k := 28) rfl (by rfl) ?_) | (refine Wk.step (m := 11) (k := 28) (v := _) rfl (by rfl) (fun wv hS => by obtain ⟨s0, s1, s2, s3, s4, s5, s6, s7, s8, s9⟩ := hS; go_simp; try with_reducible rfl) ?_)
                      try simp only [Act.put, List.getElem_toArray, List.getElem_cons_succ, List.getElem_cons_zero, List.setIfInBounds_toArray, List.set_cons_zero, List.set_cons_succ]
                      first | (refine Wk.skip (m := 10) (k := 29) rfl (by rfl) ?_) | (refine Wk.step (m := 10) (k := 29) (v := _) rfl (by rfl) (fun wv hS => by obtain ⟨s0, s1, s2, s3, s4, s5, s6, s7, s8, s9⟩ := hS; go_simp; try with_reducible rfl) ?_)
                      try simp only [Act.put, List.getElem_toArray, List.getElem_cons_succ, List.getElem_cons_zero, List.setIfInBounds_toArray, List.set_cons_zero, List.set_cons_succ]
                      first | (refine Wk.skip (m := 9) (k := 30) rfl (by rfl) ?_) | (refine Wk.step (m := 9) (k := 30) (v := _) rfl (by rfl) (fun wv hS => by obtain ⟨s0, s1, s2, s3, s4, s5, s6, s7, s8, s9⟩ := hS; go_simp; try with_reducible rfl) ?_)
                      try simp only [Act.put, List.getElem_toArray, List.getElem_cons_succ, List.getElem_cons_zero, List.setIfInBounds_toArray, List.set_cons_zero, List.set_cons_succ]
                      first | (refine Wk.skip (m := 8) (k := 31) rfl (by rfl) ?_) | (refine Wk.step (m := 8) (k := 31) (v := _) rfl (by rfl) (fun wv hS => by obtain ⟨s0, s1, s2, s3, s4, s5, s6, s7, s8, s9⟩ := hS; go_simp; try with_reducible rfl) ?_)
                      try simp only [Act.put, List.getElem_toArray, List.getElem_cons_succ, List.getElem_cons_zero, List.setIfInBounds_toArray, List.set_cons_zero, List.set_cons_succ]
                      first | (refine Wk.skip (m := 7) (k := 32) rfl (by rfl) ?_) | (refine Wk.step (m := 7) (k := 32) (v := _) rfl (by rfl) (fun wv hS => by obtain ⟨s0, s1, s2, s3, s4, s5, s6, s7, s8, s9⟩ := hS; go_simp; try with_reducible rfl) ?_)
                      try simp only [Act.put, List.getElem_toArray, List.getElem_cons_succ, List.getElem_cons_zero, List.setIfInBounds_toArray, List.set_cons_zero, List.set_cons_succ]
                      first | (refine Wk.skip (m := 6) (k := 33) rfl (by rfl) ?_) | (refine Wk.step (m := 6) (k := 33) (v := _) rfl (by rfl) (fun wv hS => by obtain ⟨s0, s1, s2, s3, s4, s5, s6, s7, s8, s9⟩ := hS; go_simp; try with_reducible rfl) ?_)
                      try simp only [Act.put, List.getElem_toArray, List.getElem_cons_succ, List.getElem_cons_zero, List.setIfInBounds_toArray, List.set_cons_zero, List.set_cons_succ]
                      first | (refine Wk.skip (m := 5) (k := 34) rfl (by rfl) ?_) | (refine Wk.step (m := 5) (k := 34) (v := _) rfl (by rfl) (fun wv hS => by obtain ⟨s0, s1, s2, s3, s4, s5, s6, s7, s8, s9⟩ := hS; go_simp; try with_reducible rfl) ?_)
                      try simp only [Act.put, List.getElem_toArray, List.getElem_cons_succ, List.getElem_cons_zero, List.setIfInBounds_toArray, List.set_cons_zero, List.set_cons_succ]
                      first | (refine Wk.skip (m := 4) (k := 35) rfl (by rfl) ?_) | (refine Wk.step (m := 4) (k := 35) (v := _) rfl (by rfl) (fun wv hS => by obtain ⟨s0, s1, s2, s3, s4, s5, s6, s7, s8, s9⟩ := hS; go_simp; try with_reducible rfl) ?_)
                      try simp only [Act.put, List.getElem_toArray, List.getElem_cons_succ, List.getElem_cons_zero, List.setIfInBounds_toArray, List.set_cons_zero, List.set_cons_succ]
                      first | (refine Wk.skip (m := 3) (k := 36) rfl (by rfl) ?_) | (refine Wk.step (m := 3) (k := 36) (v := _) rfl (by rfl) (fun wv hS => by obtain ⟨s0, s1, s2, s3, s4, s5, s6, s7, s8, s9⟩ := hS; go_simp; try with_reducible rfl) ?_)
                      try simp only [Act.put, List.getElem_toArray, List.getElem_cons_succ, List.getElem_cons_zero, List.setIfInBounds_toArray, List.set_cons_zero, List.set_cons_succ]
                      first | (refine Wk.skip (m := 2) (k := 37) rfl (by rfl) ?_) | (refine Wk.step (m := 2) (k := 37) (v := _) rfl (by rfl) (fun wv hS => by obtain ⟨s0, s1, s2, s3, s4, s5, s6, s7, s8, s9⟩ := hS; go_simp; try with_reducible rfl) ?_)
                      try simp only [Act.put, List.getElem_toArray, List.getElem_cons_succ, List.getElem_cons_zero, List.setIfInBounds_toArray, List.set_cons_zero, List.set_cons_succ]
                      first | (refine Wk.skip (m := 1) (k := 38) rfl (by rfl) ?_) | (refine Wk.step (m := 1) (k := 38) (v := _) rfl (by rfl) (fun wv hS => by obtain ⟨s0, s1, s2, s3, s4, s5, s6, s7, s8, s9⟩ := hS; go_simp; try with_reducible rfl) ?_)
                      try simp only [Act.put, List.getElem_toArray, List.getElem_cons_succ, List.getElem_cons_zero, List.setIfInBounds_toArray, List.set_cons_zero, List.set_cons_succ]
                      first | (refine Wk.skip (m := 0) (k := 39) rfl (by rfl) ?_) | (refine Wk.step (m := 0) (k := 39) (v := _) rfl (by rfl) (fun wv hS => by obtain ⟨s0, s1, s2, s3, s4, s5, s6, s7, s8, s9⟩ := hS; go_simp; try with_reducible rfl) ?_)
                      try simp only [Act.put, List.getElem_toArray, List.getElem_cons_succ, List.getElem_cons_zero, List.setIfInBounds_toArray, List.set_cons_zero, List.set_cons_succ]
                      refine Wk.done fun wE hE => ?_
                      clear u1 u2 u3 u4 u5 u7 u8 u9 d3
                      obtain ⟨mE, u1, u2, u3, u4, u5, u7, u8, u9, d3⟩ := hE
                      go_wp2_with fail
                      go_ret
                      exact ⟨retB (by unfold vpkB restB; simp [HHB.out, K3.out]), (M0.trans hM).trans mE⟩
                    · have K3 := Lib.hid h9'
                      clear h9'
                      cases h9' : inB x8 0 100000
                      · have K4 := Lib.hid h9'
                        clear h9'
                        go_wp2_with fail
                        refine wp_region_wk (fun w' => Mk0 wr w' ∧ w'.cell? ⟨w.heap.size, 1, none⟩ = some (.int .i64 x1) ∧ w'.cell? ⟨w.heap.size, 2, none⟩ = some (.int .i64 x2) ∧ w'.cell? ⟨w.heap.size, 3, none⟩ = some (.slice (some ⟨b, off, none⟩) n3 c3) ∧ w'.cell? ⟨w.heap.size, 4, none⟩ = some (.int .i64 (k : Int)) ∧ w'.cell? ⟨w.heap.size, 5, none⟩ = some (.int .i64 x5) ∧ w'.cell? ⟨w.heap.size, 7, none⟩ = some (.int .i64 x7) ∧ w'.cell? ⟨w.heap.size, 8, none⟩ = some (.int .i64 x8) ∧ w'.cell? ⟨w.heap.size, 9, none⟩ = some (.slice a9 n9 c9) ∧ w'.cell? ⟨b, off + k * 4 + 3, none⟩ = some (.slice ah nh ch)) (by kernel_rfl) (by kernel_rfl) (⟨Mk.drew1 _, u1, u2, u3, u4, u5, u7, u8, u9, d3⟩) ?_
                        change Wk _ _ _ _ 40 0 _
                        first | (refine Wk.skip (m := 39) (k := 0) rfl (by rfl) ?_) | (refine Wk.step (m := 39) (k := 0) (v := _) rfl (by rfl) (fun wv hS => by obtain ⟨s0, s1, s2, s3, s4, s5, s6, s7, s8, s9⟩ := hS; go_simp; try with_reducible rfl) ?_)
                        try simp only [Act.put, List.getElem_toArray, List.getElem_cons_zero, List.setIfInBounds_toArray, List.set_cons_zero, List.set_cons_succ]
                        first | (refine Wk.skip (m := 38) (k := 1) rfl (by rfl) ?_) | (refine Wk.step (m := 38) (k := 1) (v := _) rfl (by rfl) (fun wv hS => by obtain ⟨s0, s1, s2, s3, s4, s5, s6, s7, s8, s9⟩ := hS; go_simp; try with_reducible rfl) ?_)
                        try simp only [Act.put, List.getElem_toArray, List.getElem_cons_succ, List.getElem_cons_zero, List.setIfInBounds_toArray, List.set_cons_zero, List.set_cons_succ]
                        first | (refine Wk.skip (m := 37) (k := 2) rfl (by rfl) ?_) | (refine Wk.step (m := 37) (k := 2) (v := _) rfl (by rfl) (fun wv hS => by obtain ⟨s0, s1, s2, s3, s4, s5, s6, s7, s8, s9⟩ := hS; go_simp; try with_reducible rfl) ?_)
                        try simp only [Act.put, List.getElem_toArray, List.getElem_cons_succ, List.getElem_cons_zero, List.setIfInBounds_toArray, List.set_cons_zero, List.set_cons_succ]
                        first | (refine Wk.skip (m := 36) (k := 3) rfl (by rfl) ?_) | (refine Wk.step (m := 36) (k := 3) (v := _) rfl (by rfl) (fun wv hS => by obtain ⟨s0, s1, s2, s3, s4, s5, s6, s7, s8, s9⟩ := hS; go_simp; try with_reducible rfl) ?_)
                        try simp only [Act.put, List.getElem_toArray, List.getElem_cons_succ, List.getElem_cons_zero, List.setIfInBounds_toArray, List.set_cons_zero, List.set_cons_succ]
                        first | (refine Wk.skip (m := 35) (k := 4) rfl (by rfl) ?_) | (refine Wk.step (m := 35) (k := 4) (v := _) rfl (by rfl) (fun wv hS => by obtain ⟨s0, s1, s2, s3, s4, s5, s6, s7, s8, s9⟩ := hS; go_simp; try with_reducible rfl) ?_)
                        try simp only [Act.put, List.getElem_toArray, List.getElem_cons_succ, List.getElem_cons_zero, List.setIfInBounds_toArray, List.set_cons_zero, List.set_cons_succ]
                        first | (refine Wk.skip (m := 34) (k := 5) rfl (by rfl) ?_) | (refine Wk.step (m := 34) (k := 5) (v := _) rfl (by rfl) (fun wv hS => by obtain ⟨s0, s1, s2, s3, s4, s5, s6, s7, s8, s9⟩ := hS; go_simp; try with_reducible rfl) ?_)
                        try simp only [Act.put, List.getElem_toArray, List.getElem_cons_succ, List.getElem_cons_zero, List.setIfInBounds_toArray, List.set_cons_zero, List.set_cons_succ]
                        first | (refine Wk.skip (m := 33) (k := 6) rfl (by rfl) ?_) | (refine Wk.step (m := 33) (k := 6) (v := _) rfl (by rfl) (fun wv hS => by obtain ⟨s0, s1, s2, s3, s4, s5, s6, s7, s8, s9⟩ := hS; go_simp; try with_reducible rfl) ?_)
                        try simp only [Act.put, List.getElem_toArray, List.getElem_cons_succ, List.getElem_cons_zero, List.setIfInBounds_toArray, List.set_cons_zero, List.set_cons_succ]
                        first | (refine Wk.skip (m := 32) (k := 7) rfl (by rfl) ?_) | (refine Wk.step (m := 32) (k := 7) (v := _) rfl (by rfl) (fun wv hS => by obtain ⟨s0, s1, s2, s3, s4, s5, s6, s7, s8, s9⟩ := hS; go_simp; try with_reducible rfl) ?_)
                        try simp only [Act.put, List.getElem_toArray, List.getElem_cons_succ, List.getElem_cons_zero, List.setIfInBounds_toArray, List.set_cons_zero, List.set_cons_succ]
                        first | (refine Wk.skip (m := 31) (k := 8) rfl (by rfl) ?_) | (refine Wk.step (m := 31) (k := 8) (v := _) rfl (by rfl) (fun wv hS => by obtain ⟨s0, s1, s2, s3, s4, s5, s6, s7, s8, s9⟩ := hS; go_simp; try with_reducible rfl) ?_)
                        try simp only [Act.put, List.getElem_toArray, List.getElem_cons_succ, List.getElem_cons_zero, List.setIfInBounds_toArray, List.set_cons_zero, List.set_cons_succ]
                        first | (refine Wk.skip (m := 30) (k := 9) rfl (by rfl) ?_) | (refine Wk.step (m := 30) (k := 9) (v := _) rfl (by rfl) (fun wv hS => by obtain ⟨s0, s1, s2, s3, s4, s5, s6, s7, s8, s9⟩ := hS; go_simp; try with_reducible rfl) ?_)
                        try simp only [Act.put, List.getElem_toArray, List.getElem_cons_succ, List.getElem_cons_zero, List.setIfInBounds_toArray, List.set_cons_zero, List.set_cons_succ]
                        first | (refine Wk.skip (m := 29) (k := 10) rfl (by rfl) ?_) | (refine Wk.step (m := 29) (k := 10) (v := _) rfl (by rfl) (fun wv hS => by obtain ⟨s0, s1, s2, s3, s4, s5, s6, s7, s8, s9⟩ := hS; go_simp; try with_reducible rfl) ?_)
                        try simp only [Act.put, List.getElem_toArray, List.getElem_cons_succ, List.getElem_cons_zero, List.setIfInBounds_toArray, List.set_cons_zero, List.set_cons_succ]
                        first | (refine Wk.skip (m := 28) (k := 11) rfl (by rfl) ?_) | (refine Wk.step (m := 28) (k := 11) (v := _) rfl (by rfl) (fun wv hS => by obtain ⟨s0, s1, s2, s3, s4, s5, s6, s7, s8, s9⟩ := hS; go_simp; try with_reducible rfl) ?_)
                        try simp only [Act.put, List.getElem_toArray, List.getElem_cons_succ, List.getElem_cons_zero, List.setIfInBounds_toArray, List.set_cons_zero, List.set_cons_succ]
                        refine Wk.call (m := 27) (k := 12) (v := .bool true) _ _ rfl (by rfl) (fun wv hS => by obtain ⟨s0, s1, s2, s3, s4, s5, s6, s7, s8, s9⟩ := hS; go_simp; first | done | exact ⟨rfl, rfl⟩ | with_reducible rfl) (fun wv hS => ?_) ?_; · obtain ⟨s0, s1, s2, s3, s4, s5, s6, s7, s8, s9⟩ := hS; refine (specIn _ _ _ wv).mono ?_; rintro e w' ⟨he, rfl⟩; exact ⟨by rw [he]; first | rw [K0.out] | rw [hwh, K0.out], s0, s1, s2, s3, s4, s5, s6, s7, s8, s9⟩
                        try simp only [Act.put, List.getElem_toArray, List.getElem_cons_succ, List.getElem_cons_zero, List.setIfInBounds_toArray, List.set_cons_zero, List.set_cons_succ]
                        first | (refine Wk.skip (m := 26) (k := 13) rfl (by rfl) ?_) | (refine Wk.step (m := 26) (k := 13) (v := _) rfl (by rfl) (fun wv hS => by obtain ⟨s0, s1, s2, s3, s4, s5, s6, s7, s8, s9⟩ := hS; go_simp; try with_reducible rfl) ?_)
                        try simp only [Act.put, List.getElem_toArray, List.getElem_cons_succ, List.getElem_cons_zero, List.setIfInBounds_toArray, List.set_cons_zero, List.set_cons_succ]
                        first | (refine Wk.skip (m := 25) (k := 14) rfl (by rfl) ?_) | (refine Wk.step (m := 25) (k := 14) (v := _) rfl (by rfl) (fun wv hS => by obtain ⟨s0, s1, s2, s3, s4, s5, s6, s7, s8, s9⟩ := hS; go_simp; try with_reducible rfl) ?_)
                        try simp only [Act.put, List.getElem_toArray, List.getElem_cons_succ, List.getElem_cons_zero, List.setIfInBounds_toArray, List.set_cons_zero, List.set_cons_succ]
                        first | (refine Wk.skip (m := 24) (k := 15) rfl (by rfl) ?_) | (refine Wk.step (m := 24) (k := 15) (v := _) rfl (by rfl) (fun wv hS => by obtain ⟨s0, s1, s2, s3, s4, s5, s6, s7, s8, s9⟩ := hS; go_simp; try with_reducible rfl) ?_)
                        try simp only [Act.put, List.getElem_toArray, List.getElem_cons_succ, List.getElem_cons_zero, List.setIfInBounds_toArray, List.set_cons_zero, List.set_cons_succ]
                        refine Wk.call (m := 23) (k := 16) (v := .bool true) _ _ rfl (by rfl) (fun wv hS => by obtain ⟨s0, s1, s2, s3, s4, s5, s6, s7, s8, s9⟩ := hS; go_simp; first | done | exact ⟨rfl, rfl⟩ | with_reducible rfl) (fun wv hS => ?_) ?_; · obtain ⟨s0, s1, s2, s3, s4, s5, s6, s7, s8, s9⟩ := hS; refine (specIn _ _ _ wv).mono ?_; rintro e w' ⟨he, rfl⟩; exact ⟨by rw [he]; first | rw [K1.out] | rw [hwh, K1.out], s0, s1, s2, s3, s4, s5, s6, s7, s8, s9⟩
                        try simp only [Act.put, List.getElem_toArray, List.getElem_cons_succ, List.getElem_cons_zero, List.setIfInBounds_toArray, List.set_cons_zero, List.set_cons_succ]
                        first | (refine Wk.skip (m := 22) (k := 17) rfl (by rfl) ?_) | (refine Wk.step (m := 22) (k := 17) (v := _) rfl (by rfl) (fun wv hS => by obtain ⟨s0, s1, s2, s3, s4, s5, s6, s7, s8, s9⟩ := hS; go_simp; try with_reducible rfl) ?_)
                        try simp only [Act.put, List.getElem_toArray, List.getElem_cons_succ, List.getElem_cons_zero, List.setIfInBounds_toArray, List.set_cons_zero, List.set_cons_succ]
                        first | (refine Wk.skip (m := 21) (k := 18) rfl (by rfl) ?_) | (refine Wk.step (m := 21) (k := 18) (v := _) rfl (by rfl) (fun wv hS => by obtain ⟨s0, s1, s2, s3, s4, s5, s6, s7, s8, s9⟩ := hS; go_simp; try with_reducible rfl) ?_)
                        try simp only [Act.put, List.getElem_toArray, List.getElem_cons_succ, List.getElem_cons_zero, List.setIfInBounds_toArray, List.set_cons_zero, List.set_cons_succ]
                        first | (refine Wk.skip (m := 20) (k := 19) rfl (by rfl) ?_) | (refine Wk.step (m := 20) (k := 19) (v := _) rfl (by rfl) (fun wv hS => by obtain ⟨s0, s1, s2, s3, s4, s5, s6, s7, s8, s9⟩ := hS; go_simp; try with_reducible rfl) ?_)
                        try simp only [Act.put, List.getElem_toArray, List.getElem_cons_succ, List.getElem_cons_zero, List.setIfInBounds_toArray, List.set_cons_zero, List.set_cons_succ]
                        first | (refine Wk.skip (m := 19) (k := 20) rfl (by rfl) ?_) | (refine Wk.step (m := 19) (k := 20) (v := _) rfl (by rfl) (fun wv hS => by obtain ⟨s0, s1, s2, s3, s4, s5, s6, s7, s8, s9⟩ := hS; go_simp; try with_reducible rfl) ?_)
                        try simp only [Act.put, List.getElem_toArray, List.getElem_cons_succ, List.getElem_cons_zero, List.setIfInBounds_toArray, List.set_cons_zero, List.set_cons_succ]
                        refine Wk.call (m := 18) (k := 21) (v := .bool true) _ _ rfl (by rfl) (fun wv hS => by obtain ⟨s0, s1, s2, s3, s4, s5, s6, s7, s8, s9⟩ := hS; go_simp; first | done | exact ⟨rfl, rfl⟩ | with_reducible rfl) (fun wv hS => ?_) ?_; · obtain ⟨s0, s1, s2, s3, s4, s5, s6, s7, s8, s9⟩ := hS; refine (specIn _ _ _ wv).mono ?_; rintro e w' ⟨he, rfl⟩; exact ⟨by rw [he]; first | rw [K2.out] | rw [hwh, K2.out], s0, s1, s2, s3, s4, s5, s6, s7, s8, s9⟩
                        try simp only [Act.put, List.getElem_toArray, List.getElem_cons_succ, List.getElem_cons_zero, List.setIfInBounds_toArray, List.set_cons_zero, List.set_cons_succ]
                        first | (refine Wk.skip (m := 17) (k := 22) rfl (by rfl) ?_) | (refine Wk.step (m := 17) (k := 22) (v := _) rfl (by rfl) (fun wv hS => by obtain ⟨s0, s1, s2, s3, s4, s5, s6, s7, s8, s9⟩ := hS; go_simp; try with_reducible rfl) ?_)
                        try simp only [Act.put, List.getElem_toArray, List.getElem_cons_succ, List.getElem_cons_zero, List.setIfInBounds_toArray, List.set_cons_zero, List.set_cons_succ]
                        first | (refine Wk.skip (m := 16) (k := 23) rfl (by rfl) ?_) | (refine Wk.step (m := 16) (k := 23) (v := _) rfl (by rfl) (fun wv hS => by obtain ⟨s0, s1, s2, s3, s4, s5, s6, s7, s8, s9⟩ := hS; go_simp; try with_reducible rfl) ?_)
                        try simp only [Act.put, List.getElem_toArray, List.getElem_cons_succ, List.getElem_cons_zero, List.setIfInBounds_toArray, List.set_cons_zero, List.set_cons_succ]
                        first | (refine Wk.skip (m := 15) (k := 24) rfl (by rfl) ?_) | (refine Wk.step (m := 15) (k := 24) (v := _) rfl (by rfl) (fun wv hS => by obtain ⟨s0, s1, s2, s3, s4, s5, s6, s7, s8, s9⟩ := hS; go_simp; try with_reducible rfl) ?_)
                        try simp only [Act.put, List.getElem_toArray, List.getElem_cons_succ, List.getElem_cons_zero, List.setIfInBounds_toArray, List.set_cons_zero, List.set_cons_succ]
                        first | (refine Wk.skip (m := 14) (k := 25) rfl (by rfl) ?_) | (refine Wk.step (m := 14) (k := 25) (v := _) rfl (by rfl) (fun wv hS => by obtain ⟨s0, s1, s2, s3, s4, s5, s6, s7, s8, s9⟩ := hS; go_simp; try with_reducible rfl) ?_)
                        try simp only [Act.put, List.getElem_toArray, List.getElem_cons_succ, List.getElem_cons_zero, List.setIfInBounds_toArray, List.set_cons_zero, List.set_cons_succ]
                        refine Wk.call (m := 13) (k := 26) (v := .bool true) _ _ rfl (by rfl) (fun wv hS => by obtain ⟨s0, s1, s2, s3, s4, s5, s6, s7, s8, s9⟩ := hS; go_simp; first | done | exact ⟨rfl, rfl⟩ | with_reducible rfl) (fun wv hS => ?_) ?_; · obtain ⟨s0, s1, s2, s3, s4, s5, s6, s7, s8, s9⟩ := hS; refine (specIn _ _ _ wv).mono ?_; rintro e w' ⟨he, rfl⟩; exact ⟨by rw [he]; first | rw [K3.out] | rw [hwh, K3.out], s0, s1, s2, s3, s4, s5, s6, s7, s8, s9⟩
                        try simp only [Act.put, List.getElem_toArray, List.getElem_cons_succ, List.getElem_cons_zero, List.setIfInBounds_toArray, List.set_cons_zero, List.set_cons_succ]
                        first | (refine Wk.skip (m := 12) (k := 27) rfl (by rfl) ?_) | (refine Wk.step (m := 12) (k := 27) (v := _) rfl (by rfl) (fun wv hS => by obtain ⟨s0, s1, s2, s3, s4, s5, s6, s7, s8, s9⟩ := hS; go_simp; try with_reducible rfl) ?_)
                        try simp only [Act.put, List.getElem_toArray, List.getElem_cons_succ, List.getElem_cons_zero, List.setIfInBounds_toArray, List.set_cons_zero, List.set_cons_succ]
                        first | (refine Wk.skip (m := 11) (k := 28) rfl (by rfl) ?_) | (refine Wk.step (m := 11) (k := 28) (v := _) rfl (by rfl) (fun wv hS => by obtain ⟨s0, s1, s2, s3, s4, s5, s6, s7, s8, s9⟩ := hS; go_simp; try with_reducible rfl) ?_)
                        try simp only [Act.put, List.getElem_toArray, List.getElem_cons_succ, List.getElem_cons_zero, List.setIfInBounds_toArray, List.set_cons_zero, List.set_cons_succ]
                        first | (refine Wk.skip (m := 10) (k := 29) rfl (by rfl) ?_) | (refine Wk.step (m := 10) (k := 29) (v := _) rfl (by rfl) (fun wv hS => by obtain ⟨s0, s1, s2, s3, s4, s5, s6, s7, s8, s9⟩ := hS; go_simp; try with_reducible rfl) ?_)
                        try simp only [Act.put, List.getElem_toArray, List.getElem_cons_succ, List.getElem_cons_zero, List.setIfInBounds_toArray, List.set_cons_zero, List.set_cons_succ]
                        first | (refine Wk.skip (m := 9) (k := 30) rfl (by rfl) ?_) | (refine Wk.step (m := 9) (k := 30) (v := _) rfl (by rfl) (fun wv hS => by obtain ⟨s0, s1, s2, s3, s4, s5, s6, s7, s8, s9⟩ := hS; go_simp; try with_reducible rfl) ?_)
                        try simp only [Act.put, List.getElem_toArray, List.getElem_cons_succ, List.getElem_cons_zero, List.setIfInBounds_toArray, List.set_cons_zero, List.set_cons_succ]
                        refine Wk.call (m := 8) (k := 31) (v := .bool false) _ _ rfl (by rfl) (fun wv hS => by obtain ⟨s0, s1, s2, s3, s4, s5, s6, s7, s8, s9⟩ := hS; go_simp; first | done | exact ⟨rfl, rfl⟩ | with_reducible rfl) (fun wv hS => ?_) ?_; · obtain ⟨s0, s1, s2, s3, s4, s5, s6, s7, s8, s9⟩ := hS; refine (specIn _ _ _ wv).mono ?_; rintro e w' ⟨he, rfl⟩; exact ⟨by rw [he]; first | rw [K4.out] | rw [hwh, K4.out], s0, s1, s2, s3, s4, s5, s6, s7, s8, s9⟩
                        try simp only [Act.put, List.getElem_toArray, List.getElem_cons_succ, List.getElem_cons_zero, List.setIfInBounds_toArray, List.set_cons_zero, List.set_cons_succ]
                        first | (refine Wk.skip (m := 7) (k := 32) rfl (by rfl) ?_) | (refine Wk.step (m := 7) (k := 32) (v := _) rfl (by rfl) (fun wv hS => by obtain ⟨s0, s1, s2, s3, s4, s5, s6, s7, s8, s9⟩ := hS; go_simp; try with_reducible rfl) ?_)
                        try simp only [Act.put, List.getElem_toArray, List.getElem_cons_succ, List.getElem_cons_zero, List.setIfInBounds_toArray, List.set_cons_zero, List.set_cons_succ]
                        first | (refine Wk.skip (m := 6) (k := 33) rfl (by rfl) ?_) | (refine Wk.step (m := 6) (k := 33) (v := _) rfl (by rfl) (fun wv hS => by obtain ⟨s0, s1, s2, s3, s4, s5, s6, s7, s8, s9⟩ := hS; go_simp; try with_reducible rfl) ?_)
                        try simp only [Act.put, List.getElem_toArray, List.getElem_cons_succ, List.getElem_cons_zero, List.setIfInBounds_toArray, List.set_cons_zero, List.set_cons_succ]
                        first | (refine Wk.skip (m := 5) (k := 34) rfl (by rfl) ?_) | (refine Wk.step (m := 5) (k := 34) (v := _) rfl (by rfl) (fun wv hS => by obtain ⟨s0, s1, s2, s3, s4, s5, s6, s7, s8, s9⟩ := hS; go_simp; try with_reducible rfl) ?_)
                        try simp only [Act.put, List.getElem_toArray, List.getElem_cons_succ, List.getElem_cons_zero, List.setIfInBounds_toArray, List.set_cons_zero, List.set_cons_succ]
                        first | (refine Wk.skip (m := 4) (k := 35) rfl (by rfl) ?_) | (refine Wk.step (m := 4) (k := 35) (v := _) rfl (by rfl) (fun wv hS => by obtain ⟨s0, s1, s2, s3, s4, s5, s6, s7, s8, s9⟩ := hS; go_simp; try with_reducible rfl) ?_)
                        try simp only [Act.put, List.getElem_toArray, List.getElem_cons_succ, List.getElem_cons_zero, List.setIfInBounds_toArray, List.set_cons_zero, List.set_cons_succ]
                        first | (refine Wk.skip (m := 3) (k := 36) rfl (by rfl) ?_) | (refine Wk.step (m := 3) (k := 36) (v := _) rfl (by rfl) (fun wv hS => by obtain ⟨s0, s1, s2, s3, s4, s5, s6, s7, s8, s9⟩ := hS; go_simp; try with_reducible rfl) ?_)
                        try simp only [Act.put, List.getElem_toArray, List.getElem_cons_succ, List.getElem_cons_zero, List.setIfInBounds_toArray, List.set_cons_zero, List.set_cons_succ]
                        first | (refine Wk.skip (m := 2) (k := 37) rfl (by rfl) ?_) | (refine Wk.step (m := 2) (k := 37) (v := _) rfl (by rfl) (fun wv hS => by obtain ⟨s0, s1, s2, s3, s4, s5, s6, s7, s8, s9⟩ := hS; go_simp; try with_reducible rfl) ?_)
                        try simp only [Act.put, List.getElem_toArray, List.getElem_cons_succ, List.getElem_cons_zero, List.setIfInBounds_toArray, List.set_cons_zero, List.set_cons_succ]
                        first | (refine Wk.skip (m := 1) (k := 38) rfl (by rfl) ?_) | (refine Wk.step (m := 1) (k := 38) (v := _) rfl (by rfl) (fun wv hS => by obtain ⟨s0, s1, s2, s3, s4, s5, s6, s7, s8, s9⟩ := hS; go_simp; try with_reducible rfl) ?_)
                        try simp only [Act.put, List.getElem_toArray, List.getElem_cons_succ, List.getElem_cons_zero, List.setIfInBounds_toArray, List.set_cons_zero, List.set_cons_succ]
                        first | (refine Wk.skip (m := 0) (k := 39) rfl (by rfl) ?_) | (refine Wk.step (m := 0) (k := 39) (v := _) rfl (by rfl) (fun wv hS => by obtain ⟨s0, s1, s2, s3, s4, s5, s6, s7, s8, s9⟩ := hS; go_simp; try with_reducible rfl) ?_)
                        try simp only [Act.put, List.getElem_toArray, List.getElem_cons_succ, List.getElem_cons_zero, List.setIfInBounds_toArray, List.set_cons_zero, List.set_cons_succ]
                        refine Wk.done fun wE hE => ?_
                        clear u1 u2 u3 u4 u5 u7 u8 u9 d3
                        obtain ⟨mE, u1, u2, u3, u4, u5, u7, u8, u9, d3⟩ := hE
                        go_wp2_with fail
                        go_ret
                        exact ⟨retB (by unfold vpkB restB; simp [HHB.out, K4.out]), (M0.trans hM).trans mE⟩
                      · have K4 := Lib.hid h9'
                        clear h9'
                        cases h9' : decide ((n9 : Int) ≤ 40)
                        · have K5 := Lib.hid h9'
                          replace h9' : (40 : Int) < (n9 : Int) := by simpa using h9'
                          go_wp2_with fail
                          refine wp_region_wk (fun w' => Mk0 wr w' ∧ w'.cell? ⟨w.heap.size, 1, none⟩ = some (.int .i64 x1) ∧ w'.cell? ⟨w.heap.size, 2, none⟩ = some (.int .i64 x2) ∧ w'.cell? ⟨w.heap.size, 3, none⟩ = some (.slice (some ⟨b, off, none⟩) n3 c3) ∧ w'.cell? ⟨w.heap.size, 4, none⟩ = some (.int .i64 (k : Int)) ∧ w'.cell? ⟨w.heap.size, 5, none⟩ = some (.int .i64 x5) ∧ w'.cell? ⟨w.heap.size, 7, none⟩ = some (.int .i64 x7) ∧ w'.cell? ⟨w.heap.size, 8, none⟩ = some (.int .i64 x8) ∧ w'.cell? ⟨w.heap.size, 9, none⟩ = some (.slice a9 n9 c9) ∧ w'.cell? ⟨b, off + k * 4 + 3, none⟩ = some (.slice ah nh ch)) (by kernel_rfl) (by kernel_rfl) (⟨Mk.drew1 _, u1, u2, u3, u4, u5, u7, u8, u9, d3⟩) ?_
                          change Wk _ _ _ _ 40 0 _
                          first | (refine Wk.skip (m := 39) (k := 0) rfl (by rfl) ?_) | (refine Wk.step (m := 39) (k := 0) (v := _) rfl (by rfl) (fun wv hS => by obtain ⟨s0, s1, s2, s3, s4, s5, s6, s7, s8, s9⟩ := hS; go_simp; try with_reducible rfl) ?_)
                          try simp only [Act.put, List.getElem_toArray, List.getElem_cons_zero, List.setIfInBounds_toArray, List.set_cons_zero, List.set_cons_succ]
                          first | (refine Wk.skip (m := 38) (k := 1) rfl (by rfl) ?_) | (refine Wk.step (m := 38) (k := 1) (v := _) rfl (by rfl) (fun wv hS => by obtain ⟨s0, s1, s2, s3, s4, s5, s6, s7, s8, s9⟩ := hS; go_simp; try with_reducible rfl) ?_)
                          try simp only [Act.put, List.getElem_toArray, List.getElem_cons_succ, List.getElem_cons_zero, List.setIfInBounds_toArray, List.set_cons_zero, List.set_cons_succ]
                          first | (refine Wk.skip (m := 37) (k := 2) rfl (by rfl) ?_) | (refine Wk.step (m := 37) (k := 2) (v := _) rfl (by rfl) (fun wv hS => by obtain ⟨s0, s1, s2, s3, s4, s5, s6, s7, s8, s9⟩ := hS; go_simp; try with_reducible rfl) ?_)
                          try simp only [Act.put, List.getElem_toArray, List.getElem_cons_succ, List.getElem_cons_zero, List.setIfInBounds_toArray, List.set_cons_zero, List.set_cons_succ]
                          first | (refine Wk.skip (m := 36) (k := 3) rfl (by rfl) ?_) | (refine Wk.step (m := 36) (k := 3) (v := _) rfl (by rfl) (fun wv hS => by obtain ⟨s0, s1, s2, s3, s4, s5, s6, s7, s8, s9⟩ := hS; go_simp; try with_reducible rfl) ?_)
                          try simp only [Act.put, List.getElem_toArray, List.getElem_cons_succ, List.getElem_cons_zero, List.setIfInBounds_toArray, List.set_cons_zero, List.set_cons_succ]
                          first | (refine Wk.skip (m := 35) (k := 4) rfl (by rfl) ?_) | (refine Wk.step (m := 35) (k := 4) (v := _) rfl (by rfl) (fun wv hS => by obtain ⟨s0, s1, s2, s3, s4, s5, s6, s7, s8, s9⟩ := hS; go_simp; try with_reducible rfl) ?_)
                          try simp only [Act.put, List.getElem_toArray, List.getElem_cons_succ, List.getElem_cons_zero, List.setIfInBounds_toArray, List.set_cons_zero, List.set_cons_succ]
                          first | (refine Wk.skip (m := 34) (k := 5) rfl (by rfl) ?_) | (refine Wk.step (m := 34) (k := 5) (v := _) rfl (by rfl) (fun wv hS => by obtain ⟨s0, s1, s2, s3, s4, s5, s6, s7, s8, s9⟩ := hS; go_simp; try with_reducible rfl) ?_)
                          try simp only [Act.put, List.getElem_toArray, List.getElem_cons_succ, List.getElem_cons_zero, List.setIfInBounds_toArray, List.set_cons_zero, List.set_cons_succ]
                          first | (refine Wk.skip (m := 33) (k := 6) rfl (by rfl) ?_) | (refine Wk.step (m := 33) (k := 6) (v := _) rfl (by rfl) (fun wv hS => by obtain ⟨s0, s1, s2, s3, s4, s5, s6, s7, s8, s9⟩ := hS; go_simp; try with_reducible rfl) ?_)
                          try simp only [Act.put, List.getElem_toArray, List.getElem_cons_succ, List.getElem_cons_zero, List.setIfInBounds_toArray, List.set_cons_zero, List.set_cons_succ]
                          first | (refine Wk.skip (m := 32) (k := 7) rfl (by rfl) ?_) | (refine Wk.step (m := 32) (k := 7) (v := _) rfl (by rfl) (fun wv hS => by obtain ⟨s0, s1, s2, s3, s4, s5, s6, s7, s8, s9⟩ := hS; go_simp; try with_reducible rfl) ?_)
                          try simp only [Act.put, List.getElem_toArray, List.getElem_cons_succ, List.getElem_cons_zero, List.setIfInBounds_toArray, List.set_cons_zero, List.set_cons_succ]
                          first | (refine Wk.skip (m := 31) (k := 8) rfl (by rfl) ?_) | (refine Wk.step (m := 31) (k := 8) (v := _) rfl (by rfl) (fun wv hS => by obtain ⟨s0, s1, s2, s3, s4, s5, s6, s7, s8, s9⟩ := hS; go_simp; try with_reducible rfl) ?_)
                          try simp only [Act.put, List.getElem_toArray, List.getElem_cons_succ, List.getElem_cons_zero, List.setIfInBounds_toArray, List.set_cons_zero, List.set_cons_succ]
                          first | (refine Wk.skip (m := 30) (k := 9) rfl (by rfl) ?_) | (refine Wk.step (m := 30) (k := 9) (v := _) rfl (by rfl) (fun wv hS => by obtain ⟨s0, s1, s2, s3, s4, s5, s6, s7, s8, s9⟩ := hS; go_simp; try with_reducible rfl) ?_)
                          try simp only [Act.put, List.getElem_toArray, List.getElem_cons_succ, List.getElem_cons_zero, List.setIfInBounds_toArray, List.set_cons_zero, List.set_cons_succ]
                          first | (refine Wk.skip (m := 29) (k := 10) rfl (by rfl) ?_) | (refine Wk.step (m := 29) (k := 10) (v := _) rfl (by rfl) (fun wv hS => by obtain ⟨s0, s1, s2, s3, s4, s5, s6, s7, s8, s9⟩ := hS; go_simp; try with_reducible rfl) ?_)
                          try simp only [Act.put, List.getElem_toArray, List.getElem_cons_succ, List.getElem_cons_zero, List.setIfInBounds_toArray, List.set_cons_zero, List.set_cons_succ]
                          first | (refine Wk.skip (m := 28) (k := 11) rfl (by rfl) ?_) | (refine Wk.step (m := 28) (k := 11) (v := _) rfl (by rfl) (fun wv hS => by obtain ⟨s0, s1, s2, s3, s4, s5, s6, s7, s8, s9⟩ := hS; go_simp; try with_reducible rfl) ?_)
                          try simp only [Act.put, List.getElem_toArray, List.getElem_cons_succ, List.getElem_cons_zero, List.setIfInBounds_toArray, List.set_cons_zero, List.set_cons_succ]
                          refine Wk.call (m := 27) (k := 12) (v := .bool true) _ _ rfl (by rfl) (fun wv hS => by obtain ⟨s0, s1, s2, s3, s4, s5, s6, s7, s8, s9⟩ := hS; go_simp; first | done | exact ⟨rfl, rfl⟩ | with_reducible rfl) (fun wv hS => ?_) ?_; · obtain ⟨s0, s1, s2, s3, s4, s5, s6, s7, s8, s9⟩ := hS; refine (specIn _ _ _ wv).mono ?_; rintro e w' ⟨he, rfl⟩; exact ⟨by rw [he]; first | rw [K0.out] | rw [hwh, K0.out], s0, s1, s2, s3, s4, s5, s6, s7, s8, s9⟩
                          try simp only [Act.put, List.getElem_toArray, List.getElem_cons_succ, List.getElem_cons_zero, List.setIfInBounds_toArray, List.set_cons_zero, List.set_cons_succ]
                          first | (refine Wk.skip (m := 26) (k := 13) rfl (by rfl) ?_) | (refine Wk.step (m := 26) (k := 13) (v := _) rfl (by rfl) (fun wv hS => by obtain ⟨s0, s1, s2, s3, s4, s5, s6, s7, s8, s9⟩ := hS; go_simp; try with_reducible rfl) ?_)
                          try simp only [Act.put, List.getElem_toArray, List.getElem_cons_succ, List.getElem_cons_zero, List.setIfInBounds_toArray, List.set_cons_zero, List.set_cons_succ]
                          first | (refine Wk.skip (m := 25) (k := 14) rfl (by rfl) ?_) | (refine Wk.step (m := 25) (k := 14) (v := _) rfl (by rfl) (fun wv hS => by obtain ⟨s0, s1, s2, s3, s4, s5, s6, s7, s8, s9⟩ := hS; go_simp; try with_reducible rfl) ?_)
                          try simp only [Act.put, List.getElem_toArray, List.getElem_cons_succ, List.getElem_cons_zero, List.setIfInBounds_toArray, List.set_cons_zero, List.set_cons_succ]
                          first | (refine Wk.skip (m := 24) (k := 15) rfl (by rfl) ?_) | (refine Wk.step (m := 24) (k := 15) (v := _) rfl (by rfl) (fun wv hS => by obtain ⟨s0, s1, s2, s3, s4, s5, s6, s7, s8, s9⟩ := hS; go_simp; try with_reducible rfl) ?_)
                          try simp only [Act.put, List.getElem_toArray, List.getElem_cons_succ, List.getElem_cons_zero, List.setIfInBounds_toArray, List.set_cons_zero, List.set_cons_succ]
                          refine Wk.call (m := 23) (k := 16) (v := .bool true) _ _ rfl (by rfl) (fun wv hS => by obtain ⟨s0, s1, s2, s3, s4, s5, s6, s7, s8, s9⟩ := hS; go_simp; first | done | exact ⟨rfl, rfl⟩ | with_reducible rfl) (fun wv hS => ?_) ?_; · obtain ⟨s0, s1, s2, s3, s4, s5, s6, s7, s8, s9⟩ := hS; refine (specIn _ _ _ wv).mono ?_; rintro e w' ⟨he, rfl⟩; exact ⟨by rw [he]; first | rw [K1.out] | rw [hwh, K1.out], s0, s1, s2, s3, s4, s5, s6, s7, s8, s9⟩
                          try simp only [Act.put, List.getElem_toArray, List.getElem_cons_succ, List.getElem_cons_zero, List.setIfInBounds_toArray, List.set_cons_zero, List.set_cons_succ]
                          first | (refine Wk.skip (m := 22) (k := 17) rfl (by rfl) ?_) | (refine Wk.step (m := 22) (k := 17) (v := _) rfl (by rfl) (fun wv hS => by obtain ⟨s0, s1, s2, s3, s4, s5, s6, s7, s8, s9⟩ := hS; go_simp; try with_reducible rfl) ?_)
                          try simp only [Act.put, List.getElem_toArray, List.getElem_cons_succ, List.getElem_cons_zero, List.setIfInBounds_toArray, List.set_cons_zero, List.set_cons_succ]
                          first | (refine Wk.skip (m := 21) (k := 18) rfl (by rfl) ?_) | (refine Wk.step (m := 21) (k := 18) (v := _) rfl (by rfl) (fun wv hS => by obtain ⟨s0, s1, s2, s3, s4, s5, s6, s7, s8, s9⟩ := hS; go_simp; try with_reducible rfl) ?_)
                          try simp only [Act.put, List.getElem_toArray, List.getElem_cons_succ, List.getElem_cons_zero, List.setIfInBounds_toArray, List.set_cons_zero, List.set_cons_succ]
                          first | (refine Wk.skip (m := 20) (k := 19) rfl (by rfl) ?_) | (refine Wk.step (m := 20) (k := 19) (v := _) rfl (by rfl) (fun wv hS => by obtain ⟨s0, s1, s2, s3, s4, s5, s6, s7, s8, s9⟩ := hS; go_simp; try with_reducible rfl) ?_)
                          try simp only [Act.put, List.getElem_toArray, List.getElem_cons_succ, List.getElem_cons_zero, List.setIfInBounds_toArray, List.set_cons_zero, List.set_cons_succ]
                          first | (refine Wk.skip (m := 19) (k := 20) rfl (by rfl) ?_) | (refine Wk.step (m := 19) (k := 20) (v := _) rfl (by rfl) (fun wv hS => by obtain ⟨s0, s1, s2, s3, s4, s5, s6, s7, s8, s9⟩ := hS; go_simp; try with_reducible rfl) ?_)
                          try simp only [Act.put, List.getElem_toArray, List.getElem_cons_succ, List.getElem_cons_zero, List.setIfInBounds_toArray, List.set_cons_zero, List.set_cons_succ]
                          refine Wk.call (m := 18) (k := 21) (v := .bool true) _ _ rfl (by rfl) (fun wv hS => by obtain ⟨s0, s1, s2, s3, s4, s5, s6, s7, s8, s9⟩ := hS; go_simp; first | done | exact ⟨rfl, rfl⟩ | with_reducible rfl) (fun wv hS => ?_) ?_; · obtain ⟨s0, s1, s2, s3, s4, s5, s6, s7, s8, s9⟩ := hS; refine (specIn _ _ _ wv).mono ?_; rintro e w' ⟨he, rfl⟩; exact ⟨by rw [he]; first | rw [K2.out] | rw [hwh, K2.out], s0, s1, s2, s3, s4, s5, s6, s7, s8, s9⟩
                          try simp only [Act.put, List.getElem_toArray, List.getElem_cons_succ, List.getElem_cons_zero, List.setIfInBounds_toArray, List.set_cons_zero, List.set_cons_succ]
                          first | (refine Wk.skip (m := 17) (k := 22) rfl (by rfl) ?_) | (refine Wk.step (m := 17) (k := 22) (v := _) rfl (by rfl) (fun wv hS => by obtain ⟨s0, s1, s2, s3, s4, s5, s6, s7, s8, s9⟩ := hS; go_simp; try with_reducible rfl) ?_)
                          try simp only [Act.put, List.getElem_toArray, List.getElem_cons_succ, List.getElem_cons_zero, List.setIfInBounds_toArray, List.set_cons_zero, List.set_cons_succ]
                          first | (refine Wk.skip (m := 16) (k := 23) rfl (by rfl) ?_) | (refine Wk.step (m := 16) (k := 23) (v := _) rfl (by rfl) (fun wv hS => by obtain ⟨s0, s1, s2, s3, s4, s5, s6, s7, s8, s9⟩ := hS; go_simp; try with_reducible rfl) ?_)
                          try simp only [Act.put, List.getElem_toArray, List.getElem_cons_succ, List.getElem_cons_zero, List.setIfInBounds_toArray, List.set_cons_zero, List.set_cons_succ]
                          first | (refine Wk.skip (m := 15) (k := 24) rfl (by rfl) ?_) | (refine Wk.step (m := 15) (k := 24) (v := _) rfl (by rfl) (fun wv hS => by obtain ⟨s0, s1, s2, s3, s4, s5, s6, s7, s8, s9⟩ := hS; go_simp; try with_reducible rfl) ?_)
                          try simp only [Act.put, List.getElem_toArray, List.getElem_cons_succ, List.getElem_cons_zero, List.setIfInBounds_toArray, List.set_cons_zero, List.set_cons_succ]
                          first | (refine Wk.skip (m := 14) (k := 25) rfl (by rfl) ?_) | (refine Wk.step (m := 14) (k := 25) (v := _) rfl (by rfl) (fun wv hS => by obtain ⟨s0, s1, s2, s3, s4, s5, s6, s7, s8, s9⟩ := hS; go_simp; try with_reducible rfl) ?_)
                          try simp only [Act.put, List.getElem_toArray, List.getElem_cons_succ, List.getElem_cons_zero, List.setIfInBounds_toArray, List.set_cons_zero, List.set_cons_succ]
                          refine Wk.call (m := 13) (k := 26) (v := .bool true) _ _ rfl (by rfl) (fun wv hS => by obtain ⟨s0, s1, s2, s3, s4, s5, s6, s7, s8, s9⟩ := hS; go_simp; first | done | exact ⟨rfl, rfl⟩ | with_reducible rfl) (fun wv hS => ?_) ?_; · obtain ⟨s0, s1, s2, s3, s4, s5, s6, s7, s8, s9⟩ := hS; refine (specIn _ _ _ wv).mono ?_; rintro e w' ⟨he, rfl⟩; exact ⟨by rw [he]; first | rw [K3.out] | rw [hwh, K3.out], s0, s1, s2, s3, s4, s5, s6, s7, s8, s9⟩
                          try simp only [Act.put, List.getElem_toArray, List.getElem_cons_succ, List.getElem_cons_zero, List.setIfInBounds_toArray, List.set_cons_zero, List.set_cons_succ]
                          first | (refine Wk.skip (m := 12) (k := 27) rfl (by rfl) ?_) | (refine Wk.step (m := 12) (k := 27) (v := _) rfl (by rfl) (fun wv hS => by obtain ⟨s0, s1, s2, s3, s4, s5, s6, s7, s8, s9⟩ := hS; go_simp; try with_reducible rfl) ?_)
                          try simp only [Act.put, List.getElem_toArray, List.getElem_cons_succ, List.getElem_cons_zero, List.setIfInBounds_toArray, List.set_cons_zero, List.set_cons_succ]
                          first | (refine Wk.skip (m := 11) (k := 28) rfl (by rfl) ?_) | (refine Wk.step (m := 11) (k := 28) (v := _) rfl (by rfl) (fun wv hS => by obtain ⟨s0, s1, s2, s3, s4, s5, s6, s7, s8, s9⟩ := hS; go_simp; try with_reducible rfl) ?_)
                          try simp only [Act.put, List.getElem_toArray, List.getElem_cons_succ, List.getElem_cons_zero, List.setIfInBounds_toArray, List.set_cons_zero, List.set_cons_succ]
                          first | (refine Wk.skip (m := 10) (k := 29) rfl (by rfl) ?_) | (refine Wk.step (m := 10) (k := 29) (v := _) rfl (by rfl) (fun wv hS => by obtain ⟨s0, s1, s2, s3, s4, s5, s6, s7, s8, s9⟩ := hS; go_simp; try with_reducible rfl) ?_)
                          try simp only [Act.put, List.getElem_toArray, List.getElem_cons_succ, List.getElem_cons_zero, List.setIfInBounds_toArray, List.set_cons_zero, List.set_cons_succ]
                          first | (refine Wk.skip (m := 9) (k := 30) rfl (by rfl) ?_) | (refine Wk.step (m := 9) (k := 30) (v := _) rfl (by rfl) (fun wv hS => by obtain ⟨s0, s1, s2, s3, s4, s5, s6, s7, s8, s9⟩ := hS; go_simp; try with_reducible rfl) ?_)
                          try simp only [Act.put, List.getElem_toArray, List.getElem_cons_succ, List.getElem_cons_zero, List.setIfInBounds_toArray, List.set_cons_zero, List.set_cons_succ]
                          refine Wk.call (m := 8) (k := 31) (v := .bool true) _ _ rfl (by rfl) (fun wv hS => by obtain ⟨s0, s1, s2, s3, s4, s5, s6, s7, s8, s9⟩ := hS; go_simp; first | done | exact ⟨rfl, rfl⟩ | with_reducible rfl) (fun wv hS => ?_) ?_; · obtain ⟨s0, s1, s2, s3, s4, s5, s6, s7, s8, s9⟩ := hS; refine (specIn _ _ _ wv).mono ?_; rintro e w' ⟨he, rfl⟩; exact ⟨by rw [he]; first | rw [K4.out] | rw [hwh, K4.out], s0, s1, s2, s3, s4, s5, s6, s7, s8, s9⟩
                          try simp only [Act.put, List.getElem_toArray, List.getElem_cons_succ, List.getElem_cons_zero, List.setIfInBounds_toArray, List.set_cons_zero, List.set_cons_succ]
                          first | (refine Wk.skip (m := 7) (k := 32) rfl (by rfl) ?_) | (refine Wk.step (m := 7) (k := 32) (v := _) rfl (by rfl) (fun wv hS => by obtain ⟨s0, s1, s2, s3, s4, s5, s6, s7, s8, s9⟩ := hS; go_simp; try with_reducible rfl) ?_)
                          try simp only [Act.put, List.getElem_toArray, List.getElem_cons_succ, List.getElem_cons_zero, List.setIfInBounds_toArray, List.set_cons_zero, List.set_cons_succ]
                          first | (refine Wk.skip (m := 6) (k := 33) rfl (by rfl) ?_) | (refine Wk.step (m := 6) (k := 33) (v := _) rfl (by rfl) (fun wv hS => by obtain ⟨s0, s1, s2, s3, s4, s5, s6, s7, s8, s9⟩ := hS; go_simp; try with_reducible rfl) ?_)
                          try simp only [Act.put, List.getElem_toArray, List.getElem_cons_succ, List.getElem_cons_zero, List.setIfInBounds_toArray, List.set_cons_zero, List.set_cons_succ]
                          first | (refine Wk.skip (m := 5) (k := 34) rfl (by rfl) ?_) | (refine Wk.step (m := 5) (k := 34) (v := _) rfl (by rfl) (fun wv hS => by obtain ⟨s0, s1, s2, s3, s4, s5, s6, s7, s8, s9⟩ := hS; go_simp; try with_reducible rfl) ?_)
                          try simp only [Act.put, List.getElem_toArray, List.getElem_cons_succ, List.getElem_cons_zero, List.setIfInBounds_toArray, List.set_cons_zero, List.set_cons_succ]
                          first | (refine Wk.skip (m := 4) (k := 35) rfl (by rfl) ?_) | (refine Wk.step (m := 4) (k := 35) (v := _) rfl (by rfl) (fun wv hS => by obtain ⟨s0, s1, s2, s3, s4, s5, s6, s7, s8, s9⟩ := hS; go_simp; try with_reducible rfl) ?_)
                          try simp only [Act.put, List.getElem_toArray, List.getElem_cons_succ, List.getElem_cons_zero, List.setIfInBounds_toArray, List.set_cons_zero, List.set_cons_succ]
                          first | (refine Wk.skip (m := 3) (k := 36) rfl (by rfl) ?_) | (refine Wk.step (m := 3) (k := 36) (v := _) rfl (by rfl) (fun wv hS => by obtain ⟨s0, s1, s2, s3, s4, s5, s6, s7, s8, s9⟩ := hS; go_simp; try with_reducible rfl) ?_)
                          try simp only [Act.put, List.getElem_toArray, List.getElem_cons_succ, List.getElem_cons_zero, List.setIfInBounds_toArray, List.set_cons_zero, List.set_cons_succ]
                          first | (refine Wk.skip (m := 2) (k := 37) rfl (by rfl) ?_) | (refine Wk.step (m := 2) (k := 37) (v := _) rfl (by rfl) (fun wv hS => by obtain ⟨s0, s1, s2, s3, s4, s5, s6, s7, s8, s9⟩ := hS; go_simp; try with_reducible rfl) ?_)
                          try simp only [Act.put, List.getElem_toArray, List.getElem_cons_succ, List.getElem_cons_zero, List.setIfInBounds_toArray, List.set_cons_zero, List.set_cons_succ]
                          first | (refine Wk.skip (m := 1) (k := 38) rfl (by rfl) ?_) | (refine Wk.step (m := 1) (k := 38) (v := _) rfl (by rfl) (fun wv hS => by obtain ⟨s0, s1, s2, s3, s4, s5, s6, s7, s8, s9⟩ := hS; go_simp; try with_reducible rfl) ?_)
                          try simp only [Act.put, List.getElem_toArray, List.getElem_cons_succ, List.getElem_cons_zero, List.setIfInBounds_toArray, List.set_cons_zero, List.set_cons_succ]
                          first | (refine Wk.skip (m := 0) (k := 39) rfl (by rfl) ?_) | (refine Wk.step (m := 0) (k := 39) (v := _) rfl (by rfl) (fun wv hS => by obtain ⟨s0, s1, s2, s3, s4, s5, s6, s7, s8, s9⟩ := hS; go_simp; try with_reducible rfl) ?_)
                          try simp only [Act.put, List.getElem_toArray, List.getElem_cons_succ, List.getElem_cons_zero, List.setIfInBounds_toArray, List.set_cons_zero, List.set_cons_succ]
                          refine Wk.done fun wE hE => ?_
                          clear u1 u2 u3 u4 u5 u7 u8 u9 d3
                          obtain ⟨mE, u1, u2, u3, u4, u5, u7, u8, u9, d3⟩ := hE
                          go_wp2_with fail
                          go_ret
                          exact ⟨retB (by unfold vpkB restB; simp [HHB.out, K5.out]), (M0.trans hM).trans mE⟩
                        · have K5 := Lib.hid h9'
                          replace h9' : (n9 : Int) ≤ 40 := by simpa using h9'
                          go_wp2_with fail
                          refine wp_region_wk (fun w' => Mk0 wr w' ∧ w'.cell? ⟨w.heap.size, 1, none⟩ = some (.int .i64 x1) ∧ w'.cell? ⟨w.heap.size, 2, none⟩ = some (.int .i64 x2) ∧ w'.cell? ⟨w.heap.size, 3, none⟩ = some (.slice (some ⟨b, off, none⟩) n3 c3) ∧ w'.cell? ⟨w.heap.size, 4, none⟩ = some (.int .i64 (k : Int)) ∧ w'.cell? ⟨w.heap.size, 5, none⟩ = some (.int .i64 x5) ∧ w'.cell? ⟨w.heap.size, 7, none⟩ = some (.int .i64 x7) ∧ w'.cell? ⟨w.heap.size, 8, none⟩ = some (.int .i64 x8) ∧ w'.cell? ⟨w.heap.size, 9, none⟩ = some (.slice a9 n9 c9) ∧ w'.cell? ⟨b, off + k * 4 + 3, none⟩ = some (.slice ah nh ch)) (by kernel_rfl) (by kernel_rfl) (⟨Mk.drew1 _, u1, u2, u3, u4, u5, u7, u8, u9, d3⟩) ?_
                          change Wk _ _ _ _ 40 0 _
                          first | (refine Wk.skip (m := 39) (k := 0) rfl (by rfl) ?_) | (refine Wk.step (m := 39) (k := 0) (v := _) rfl (by rfl) (fun wv hS => by obtain ⟨s0, s1, s2, s3, s4, s5, s6, s7, s8, s9⟩ := hS; go_simp; try with_reducible rfl) ?_)
                          try simp only [Act.put, List.getElem_toArray, List.getElem_cons_zero, List.setIfInBounds_toArray, List.set_cons_zero, List.set_cons_succ]
                          first | (refine Wk.skip (m := 38) (k := 1) rfl (by rfl) ?_) | (refine Wk.step (m := 38) (k := 1) (v := _) rfl (by rfl) (fun wv hS => by obtain ⟨s0, s1, s2, s3, s4, s5, s6, s7, s8, s9⟩ := hS; go_simp; try with_reducible rfl) ?_)
                          try simp only [Act.put, List.getElem_toArray, List.getElem_cons_succ, List.getElem_cons_zero, List.setIfInBounds_toArray, List.set_cons_zero, List.set_cons_succ]
                          first | (refine Wk.skip (m := 37) (k := 2) rfl (by rfl) ?_) | (refine Wk.step (m := 37) (k := 2) (v := _) rfl (by rfl) (fun wv hS => by obtain ⟨s0, s1, s2, s3, s4, s5, s6, s7, s8, s9⟩ := hS; go_simp; try with_reducible rfl) ?_)
                          try simp only [Act.put, List.getElem_toArray, List.getElem_cons_succ, List.getElem_cons_zero, List.setIfInBounds_toArray, List.set_cons_zero, List.set_cons_succ]
                          first | (refine Wk.skip (m := 36) (k := 3) rfl (by rfl) ?_) | (refine Wk.step (m := 36) (k := 3) (v := _) rfl (by rfl) (fun wv hS => by obtain ⟨s0, s1, s2, s3, s4, s5, s6, s7, s8, s9⟩ := hS; go_simp; try with_reducible rfl) ?_)
                          try simp only [Act.put, List.getElem_toArray, List.getElem_cons_succ, List.getElem_cons_zero, List.setIfInBounds_toArray, List.set_cons_zero, List.set_cons_succ]
                          first | (refine Wk.skip (m := 35) (k := 4) rfl (by rfl) ?_) | (refine Wk.step (m := 35) (k := 4) (v := _) rfl (by rfl) (fun wv hS => by obtain ⟨s0, s1, s2, s3, s4, s5, s6, s7, s8, s9⟩ := hS; go_simp; try with_reducible rfl) ?_)
                          try simp only [Act.put, List.getElem_toArray, List.getElem_cons_succ, List.getElem_cons_zero, List.setIfInBounds_toArray, List.set_cons_zero, List.set_cons_succ]
                          first | (refine Wk.skip (m := 34) (k := 5) rfl (by rfl) ?_) | (refine Wk.step (m := 34) (k := 5) (v := _) rfl (by rfl) (fun wv hS => by obtain ⟨s0, s1, s2, s3, s4, s5, s6, s7, s8, s9⟩ := hS; go_simp; try with_reducible rfl) ?_)
                          try simp only [Act.put, List.getElem_toArray, List.getElem_cons_succ, List.getElem_cons_zero, List.setIfInBounds_toArray, List.set_cons_zero, List.set_cons_succ]
                          first | (refine Wk.skip (m := 33) (k := 6) rfl (by rfl) ?_) | (refine Wk.step (m := 33) (k := 6) (v := _) rfl (by rfl) (fun wv hS => by obtain ⟨s0, s1, s2, s3, s4, s5, s6, s7, s8, s9⟩ := hS; go_simp; try with_reducible rfl) ?_)
                          try simp only [Act.put, List.getElem_toArray, List.getElem_cons_succ, List.getElem_cons_zero, List.setIfInBounds_toArray, List.set_cons_zero, List.set_cons_succ]
                          first | (refine Wk.skip (m := 32) (k := 7) rfl (by rfl) ?_) | (refine Wk.step (m := 32) (k := 7) (v := _) rfl (by rfl) (fun wv hS => by obtain ⟨s0, s1, s2, s3, s4, s5, s6, s7, s8, s9⟩ := hS; go_simp; try with_reducible rfl) ?_)
                          try simp only [Act.put, List.getElem_toArray, List.getElem_cons_succ, List.getElem_cons_zero, List.setIfInBounds_toArray, List.set_cons_zero, List.set_cons_succ]
                          first | (refine Wk.skip (m := 31) (k := 8) rfl (by rfl) ?_) | (refine Wk.step (m := 31) (k := 8) (v := _) rfl (by rfl) (fun wv hS => by obtain ⟨s0, s1, s2, s3, s4, s5, s6, s7, s8, s9⟩ := hS; go_simp; try with_reducible rfl) ?_)
                          try simp only [Act.put, List.getElem_toArray, List.getElem_cons_succ, List.getElem_cons_zero, List.setIfInBounds_toArray, List.set_cons_zero, List.set_cons_succ]
                          first | (refine Wk.skip (m := 30) (k := 9) rfl (by rfl) ?_) | (refine Wk.step (m := 30) (k := 9) (v := _) rfl (by rfl) (fun wv hS => by obtain ⟨s0, s1, s2, s3, s4, s5, s6, s7, s8, s9⟩ := hS; go_simp; try with_reducible rfl) ?_)
                          try simp only [Act.put, List.getElem_toArray, List.getElem_cons_succ, List.getElem_cons_zero, List.setIfInBounds_toArray, List.set_cons_zero, List.set_cons_succ]
                          first | (refine Wk.skip (m := 29) (k := 10) rfl (by rfl) ?_) | (refine Wk.step (m := 29) (k := 10) (v := _) rfl (by rfl) (fun wv hS => by obtain ⟨s0, s1, s2, s3, s4, s5, s6, s7, s8, s9⟩ := hS; go_simp; try with_reducible rfl) ?_)
                          try simp only [Act.put, List.getElem_toArray, List.getElem_cons_succ, List.getElem_cons_zero, List.setIfInBounds_toArray, List.set_cons_zero, List.set_cons_succ]
                          first | (refine Wk.skip (m := 28) (k := 11) rfl (by rfl) ?_) | (refine Wk.step (m := 28) (k := 11) (v := _) rfl (by rfl) (fun wv hS => by obtain ⟨s0, s1, s2, s3, s4, s5, s6, s7, s8, s9⟩ := hS; go_simp; try with_reducible rfl) ?_)
                          try simp only [Act.put, List.getElem_toArray, List.getElem_cons_succ, List.getElem_cons_zero, List.setIfInBounds_toArray, List.set_cons_zero, List.set_cons_succ]
                          refine Wk.call (m := 27) (k := 12) (v := .bool true) _ _ rfl (by rfl) (fun wv hS => by obtain ⟨s0, s1, s2, s3, s4, s5, s6, s7, s8, s9⟩ := hS; go_simp; first | done | exact ⟨rfl, rfl⟩ | with_reducible rfl) (fun wv hS => ?_) ?_; · obtain ⟨s0, s1, s2, s3, s4, s5, s6, s7, s8, s9⟩ := hS; refine (specIn _ _ _ wv).mono ?_; rintro e w' ⟨he, rfl⟩; exact ⟨by rw [he]; first | rw [K0.out] | rw [hwh, K0.out], s0, s1, s2, s3, s4, s5, s6, s7, s8, s9⟩
                          try simp only [Act.put, List.getElem_toArray, List.getElem_cons_succ, List.getElem_cons_zero, List.setIfInBounds_toArray, List.set_cons_zero, List.set_cons_succ]
                          first | (refine Wk.skip (m := 26) (k := 13) rfl (by rfl) ?_) | (refine Wk.step (m := 26) (k := 13) (v := _) rfl (by rfl) (fun wv hS => by obtain ⟨s0, s1, s2, s3, s4, s5, s6, s7, s8, s9⟩ := hS; go_simp; try with_reducible rfl) ?_)
                          try simp only [Act.put, List.getElem_toArray, List.getElem_cons_succ, List.getElem_cons_zero, List.setIfInBounds_toArray, List.set_cons_zero, List.set_cons_succ]
                          first | (refine Wk.skip (m := 25) (k := 14) rfl (by rfl) ?_) | (refine Wk.step (m := 25) (k := 14) (v := _) rfl (by rfl) (fun wv hS => by obtain ⟨s0, s1, s2, s3, s4, s5, s6, s7, s8, s9⟩ := hS; go_simp; try with_reducible rfl) ?_)
                          try simp only [Act.put, List.getElem_toArray, List.getElem_cons_succ, List.getElem_cons_zero, List.setIfInBounds_toArray, List.set_cons_zero, List.set_cons_succ]
                          first | (refine Wk.skip (m := 24) (k := 15) rfl (by rfl) ?_) | (refine Wk.step (m := 24) (k := 15) (v := _) rfl (by rfl) (fun wv hS => by obtain ⟨s0, s1, s2, s3, s4, s5, s6, s7, s8, s9⟩ := hS; go_simp; try with_reducible rfl) ?_)
                          try simp only [Act.put, List.getElem_toArray, List.getElem_cons_succ, List.getElem_cons_zero, List.setIfInBounds_toArray, List.set_cons_zero, List.set_cons_succ]
                          refine Wk.call (m := 23) (k := 16) (v := .bool true) _ _ rfl (by rfl) (fun wv hS => by obtain ⟨s0, s1, s2, s3, s4, s5, s6, s7, s8, s9⟩ := hS; go_simp; first | done | exact ⟨rfl, rfl⟩ | with_reducible rfl) (fun wv hS => ?_) ?_; · obtain ⟨s0, s1, s2, s3, s4, s5, s6, s7, s8, s9⟩ := hS; refine (specIn _ _ _ wv).mono ?_; rintro e w' ⟨he, rfl⟩; exact ⟨by rw [he]; first | rw [K1.out] | rw [hwh, K1.out], s0, s1, s2, s3, s4, s5, s6, s7, s8, s9⟩
                          try simp only [Act.put, List.getElem_toArray, List.getElem_cons_succ, List.getElem_cons_zero, List.setIfInBounds_toArray, List.set_cons_zero, List.set_cons_succ]
                          first | (refine Wk.skip (m := 22) (k := 17) rfl (by rfl) ?_) | (refine Wk.step (m := 22) (k := 17) (v := _) rfl (by rfl) (fun wv hS => by obtain ⟨s0, s1, s2, s3, s4, s5, s6, s7, s8, s9⟩ := hS; go_simp; try with_reducible rfl) ?_)
                          try simp only [Act.put, List.getElem_toArray, List.getElem_cons_succ, List.getElem_cons_zero, List.setIfInBounds_toArray, List.set_cons_zero, List.set_cons_succ]
                          first | (refine Wk.skip (m := 21) (k := 18) rfl (by rfl) ?_) | (refine Wk.step (m := 21) (k := 18) (v := _) rfl (by rfl) (fun wv hS => by obtain ⟨s0, s1, s2, s3, s4, s5, s6, s7, s8, s9⟩ := hS; go_simp; try with_reducible rfl) ?_)
                          try simp only [Act.put, List.getElem_toArray, List.getElem_cons_succ, List.getElem_cons_zero, List.setIfInBounds_toArray, List.set_cons_zero, List.set_cons_succ]
                          first | (refine Wk.skip (m := 20) (k := 19) rfl (by rfl) ?_) | (refine Wk.step (m := 20) (k := 19) (v := _) rfl (by rfl) (fun wv hS => by obtain ⟨s0, s1, s2, s3, s4, s5, s6, s7, s8, s9⟩ := hS; go_simp; try with_reducible rfl) ?_)
                          try simp only [Act.put, List.getElem_toArray, List.getElem_cons_succ, List.getElem_cons_zero, List.setIfInBounds_toArray, List.set_cons_zero, List.set_cons_succ]
                          first | (refine Wk.skip (m := 19) (k := 20) rfl (by rfl) ?_) | (refine Wk.step (m := 19) (k := 20) (v := _) rfl (by rfl) (fun wv hS => by obtain ⟨s0, s1, s2, s3, s4, s5, s6, s7, s8, s9⟩ := hS; go_simp; try with_reducible rfl) ?_)
                          try simp only [Act.put, List.getElem_toArray, List.getElem_cons_succ, List.getElem_cons_zero, List.setIfInBounds_toArray, List.set_cons_zero, List.set_cons_succ]
                          refine Wk.call (m := 18) (k := 21) (v := .bool true) _ _ rfl (by rfl) (fun wv hS => by obtain ⟨s0, s1, s2, s3, s4, s5, s6, s7, s8, s9⟩ := hS; go_simp; first | done | exact ⟨rfl, rfl⟩ | with_reducible rfl) (fun wv hS => ?_) ?_; · obtain ⟨s0, s1, s2, s3, s4, s5, s6, s7, s8, s9⟩ := hS; refine (specIn _ _ _ wv).mono ?_; rintro e w' ⟨he, rfl⟩; exact ⟨by rw [he]; first | rw [K2.out] | rw [hwh, K2.out], s0, s1, s2, s3, s4, s5, s6, s7, s8, s9⟩
                          try simp only [Act.put, List.getElem_toArray, List.getElem_cons_succ, List.getElem_cons_zero, List.setIfInBounds_toArray, List.set_cons_zero, List.set_cons_succ]
                          first | (refine Wk.skip (m := 17) (k := 22) rfl (by rfl) ?_) | (refine Wk.step (m := 17) (k := 22) (v := _) rfl (by rfl) (fun wv hS => by obtain ⟨s0, s1, s2, s3, s4, s5, s6, s7, s8, s9⟩ := hS; go_simp; try with_reducible rfl) ?_)
                          try simp only [Act.put, List.getElem_toArray, List.getElem_cons_succ, List.getElem_cons_zero, List.setIfInBounds_toArray, List.set_cons_zero, List.set_cons_succ]
                          first | (refine Wk.skip (m := 16) (k := 23) rfl (by rfl) ?_) | (refine Wk.step (m := 16) (k := 23) (v := _) rfl (by rfl) (fun wv hS => by obtain ⟨s0, s1, s2, s3, s4, s5, s6, s7, s8, s9⟩ := hS; go_simp; try with_reducible rfl) ?_)
                          try simp only [Act.put, List.getElem_toArray, List.getElem_cons_succ, List.getElem_cons_zero, List.setIfInBounds_toArray, List.set_cons_zero, List.set_cons_succ]
                          first | (refine Wk.skip (m := 15) (k := 24) rfl (by rfl) ?_) | (refine Wk.step (m := 15) (k := 24) (v := _) rfl (by rfl) (fun wv hS => by obtain ⟨s0, s1, s2, s3, s4, s5, s6, s7, s8, s9⟩ := hS; go_simp; try with_reducible rfl) ?_)
                          try simp only [Act.put, List.getElem_toArray, List.getElem_cons_succ, List.getElem_cons_zero, List.setIfInBounds_toArray, List.set_cons_zero, List.set_cons_succ]
                          first | (refine Wk.skip (m := 14) (k := 25) rfl (by rfl) ?_) | (refine Wk.step (m := 14) (k := 25) (v := _) rfl (by rfl) (fun wv hS => by obtain ⟨s0, s1, s2, s3, s4, s5, s6, s7, s8, s9⟩ := hS; go_simp; try with_reducible rfl) ?_)
                          try simp only [Act.put, List.getElem_toArray, List.getElem_cons_succ, List.getElem_cons_zero, List.setIfInBounds_toArray, List.set_cons_zero, List.set_cons_succ]
                          refine Wk.call (m := 13) (k := 26) (v := .bool true) _ _ rfl (by rfl) (fun wv hS => by obtain ⟨s0, s1, s2, s3, s4, s5, s6, s7, s8, s9⟩ := hS; go_simp; first | done | exact ⟨rfl, rfl⟩ | with_reducible rfl) (fun wv hS => ?_) ?_; · obtain ⟨s0, s1, s2, s3, s4, s5, s6, s7, s8, s9⟩ := hS; refine (specIn _ _ _ wv).mono ?_; rintro e w' ⟨he, rfl⟩; exact ⟨by rw [he]; first | rw [K3.out] | rw [hwh, K3.out], s0, s1, s2, s3, s4, s5, s6, s7, s8, s9⟩
                          try simp only [Act.put, List.getElem_toArray, List.getElem_cons_succ, List.getElem_cons_zero, List.setIfInBounds_toArray, List.set_cons_zero, List.set_cons_succ]
                          first | (refine Wk.skip (m := 12) (k := 27) rfl (by rfl) ?_) | (refine Wk.step (m := 12) (k := 27) (v := _) rfl (by rfl) (fun wv hS => by obtain ⟨s0, s1, s2, s3, s4, s5, s6, s7, s8, s9⟩ := hS; go_simp; try with_reducible rfl) ?_)
                          try simp only [Act.put, List.getElem_toArray, List.getElem_cons_succ, List.getElem_cons_zero, List.setIfInBounds_toArray, List.set_cons_zero, List.set_cons_succ]
                          first | (refine Wk.skip (m := 11) (k := 28) rfl (by rfl) ?_) | (refine Wk.step (m := 11) (k := 28) (v := _) rfl (by rfl) (fun wv hS => by obtain ⟨s0, s1, s2, s3, s4, s5, s6, s7, s8, s9⟩ := hS; go_simp; try with_reducible rfl) ?_)
                          try simp only [Act.put, List.getElem_toArray, List.getElem_cons_succ, List.getElem_cons_zero, List.setIfInBounds_toArray, List.set_cons_zero, List.set_cons_succ]
                          first | (refine Wk.skip (m := 10) (k := 29) rfl (by rfl) ?_) | (refine Wk.step (m := 10) (k := 29) (v := _) rfl (by rfl) (fun wv hS => by obtain ⟨s0, s1, s2, s3, s4, s5, s6, s7, s8, s9⟩ := hS; go_simp; try with_reducible rfl) ?_)
                          try simp only [Act.put, List.getElem_toArray, List.getElem_cons_succ, List.getElem_cons_zero, List.setIfInBounds_toArray, List.set_cons_zero, List.set_cons_succ]
                          first | (refine Wk.skip (m := 9) (k := 30) rfl (by rfl) ?_) | (refine Wk.step (m := 9) (k := 30) (v := _) rfl (by rfl) (fun wv hS => by obtain ⟨s0, s1, s2, s3, s4, s5, s6, s7, s8, s9⟩ := hS; go_simp; try with_reducible rfl) ?_)
                          try simp only [Act.put, List.getElem_toArray, List.getElem_cons_succ, List.getElem_cons_zero, List.setIfInBounds_toArray, List.set_cons_zero, List.set_cons_succ]
                          refine Wk.call (m := 8) (k := 31) (v := .bool true) _ _ rfl (by rfl) (fun wv hS => by obtain ⟨s0, s1, s2, s3, s4, s5, s6, s7, s8, s9⟩ := hS; go_simp; first | done | exact ⟨rfl, rfl⟩ | with_reducible rfl) (fun wv hS => ?_) ?_; · obtain ⟨s0, s1, s2, s3, s4, s5, s6, s7, s8, s9⟩ := hS; refine (specIn _ _ _ wv).mono ?_; rintro e w' ⟨he, rfl⟩; exact ⟨by rw [he]; first | rw [K4.out] | rw [hwh, K4.out], s0, s1, s2, s3, s4, s5, s6, s7, s8, s9⟩
                          try simp only [Act.put, List.getElem_toArray, List.getElem_cons_succ, List.getElem_cons_zero, List.setIfInBounds_toArray, List.set_cons_zero, List.set_cons_succ]
                          first | (refine Wk.skip (m := 7) (k := 32) rfl (by rfl) ?_) | (refine Wk.step (m := 7) (k := 32) (v := _) rfl (by rfl) (fun wv hS => by obtain ⟨s0, s1, s2, s3, s4, s5, s6, s7, s8, s9⟩ := hS; go_simp; try with_reducible rfl) ?_)
                          try simp only [Act.put, List.getElem_toArray, List.getElem_cons_succ, List.getElem_cons_zero, List.setIfInBounds_toArray, List.set_cons_zero, List.set_cons_succ]
                          first | (refine Wk.skip (m := 6) (k := 33) rfl (by rfl) ?_) | (refine Wk.step (m := 6) (k := 33) (v := _) rfl (by rfl) (fun wv hS => by obtain ⟨s0, s1, s2, s3, s4, s5, s6, s7, s8, s9⟩ := hS; go_simp; try with_reducible rfl) ?_)
                          try simp only [Act.put, List.getElem_toArray, List.getElem_cons_succ, List.getElem_cons_zero, List.setIfInBounds_toArray, List.set_cons_zero, List.set_cons_succ]
                          first | (refine Wk.skip (m := 5) (k := 34) rfl (by rfl) ?_) | (refine Wk.step (m := 5) (k := 34) (v := _) rfl (by rfl) (fun wv hS => by obtain ⟨s0, s1, s2, s3, s4, s5, s6, s7, s8, s9⟩ := hS; go_simp; try with_reducible rfl) ?_)
                          try simp only [Act.put, List.getElem_toArray, List.getElem_cons_succ, List.getElem_cons_zero, List.setIfInBounds_toArray, List.set_cons_zero, List.set_cons_succ]
                          first | (refine Wk.skip (m := 4) (k := 35) rfl (by rfl) ?_) | (refine Wk.step (m := 4) (k := 35) (v := _) rfl (by rfl) (fun wv hS => by obtain ⟨s0, s1, s2, s3, s4, s5, s6, s7, s8, s9⟩ := hS; go_simp; try with_reducible rfl) ?_)
                          try simp only [Act.put, List.getElem_toArray, List.getElem_cons_succ, List.getElem_cons_zero, List.setIfInBounds_toArray, List.set_cons_zero, List.set_cons_succ]
                          first | (refine Wk.skip (m := 3) (k := 36) rfl (by rfl) ?_) | (refine Wk.step (m := 3) (k := 36) (v := _) rfl (by rfl) (fun wv hS => by obtain ⟨s0, s1, s2, s3, s4, s5, s6, s7, s8, s9⟩ := hS; go_simp; try with_reducible rfl) ?_)
                          try simp only [Act.put, List.getElem_toArray, List.getElem_cons_succ, List.getElem_cons_zero, List.setIfInBounds_toArray, List.set_cons_zero, List.set_cons_succ]
                          first | (refine Wk.skip (m := 2) (k := 37) rfl (by rfl) ?_) | (refine Wk.step (m := 2) (k := 37) (v := _) rfl (by rfl) (fun wv hS => by obtain ⟨s0, s1, s2, s3, s4, s5, s6, s7, s8, s9⟩ := hS; go_simp; try with_reducible rfl) ?_)
                          try simp only [Act.put, List.getElem_toArray, List.getElem_cons_succ, List.getElem_cons_zero, List.setIfInBounds_toArray, List.set_cons_zero, List.set_cons_succ]
                          first | (refine Wk.skip (m := 1) (k := 38) rfl (by rfl) ?_) | (refine Wk.step (m := 1) (k := 38) (v := _) rfl (by rfl) (fun wv hS => by obtain ⟨s0, s1, s2, s3, s4, s5, s6, s7, s8, s9⟩ := hS; go_simp; try with_reducible rfl) ?_)
                          try simp only [Act.put, List.getElem_toArray, List.getElem_cons_succ, List.getElem_cons_zero, List.setIfInBounds_toArray, List.set_cons_zero, List.set_cons_succ]
                          first | (refine Wk.skip (m := 0) (k := 39) rfl (by rfl) ?_) | (refine Wk.step (m := 0) (k := 39) (v := _) rfl (by rfl) (fun wv hS => by obtain ⟨s0, s1, s2, s3, s4, s5, s6, s7, s8, s9⟩ := hS; go_simp; try with_reducible rfl) ?_)
                          try simp only [Act.put, List.getElem_toArray, List.getElem_cons_succ, List.getElem_cons_zero, List.setIfInBounds_toArray, List.set_cons_zero, List.set_cons_succ]
                          refine Wk.done fun wE hE => ?_
                          clear u1 u2 u3 u4 u5 u7 u8 u9 d3
                          obtain ⟨mE, u1, u2, u3, u4, u5, u7, u8, u9, d3⟩ := hE
                          go_wp2_with fail
                          go_ret
                          exact ⟨retB (by unfold vpkB restB; rw [H1.out, H2.out, HE.out, HHB.out, K0.out, H4.out, K1.out, K2.out, K3.out, K4.out, K5.out]; rfl), (M0.trans hM).trans mE⟩

end Go.Proofs.Ytpfjjfbheliinaa
