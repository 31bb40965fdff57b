
/- ValidFlow: the program. -/
import Derived.Test.YtkmofhpipcodbaaVFlD
import Derived.Laws.EntriesVeiled
namespace Go.Proofs.Ytkmofhpipcodbaa
open Go.ChangeShapes Go.WideShapes Go.ChangeAt Go.RowKit
set_option linter.unusedVariables false
set_option maxRecDepth 100000 in
set_option maxHeartbeats 4000000 in
theorem implVFl (x0 x1 x2 x3 x6 x7 : Int) (a4 : Option Addr) (n4 c4 : Nat) (z4 : List TMessage) (a5 : Option Addr) (n5 c5 : Nat) (a8 : Option Addr) (n8 c8 B : Nat) (z8 : List TRevocation) (w : World) (h4 : HasMessage w B a4 n4 z4) (h8 : HasRevocation w B a8 n8 z8) (hB : B ≤ w.heap.size) (hn4 : szMessage z4 n4 ≤ 1048576) (hn5 : n5 ≤ 1048576) (hn8 : n8 ≤ 1048576) :
    Calls Try.prog 37 #[.agg #[.int .i64 x0, .int .i64 x1, .int .i64 x2, .int .i64 x3, .slice a4 n4 c4, .slice a5 n5 c5, .int .i64 x6, .int .i64 x7, .slice a8 n8 c8]] w fun e w' => e = .returned (.bool (vFlB x0 x1 x2 x3 x6 x7 n4 z4 n5 n8 z8)) ∧ Mk0 w w' := by
  have M0 := Mk.alloc w (Obj.cells #[Value.int .i64 x0, Value.int .i64 x1, Value.int .i64 x2, Value.int .i64 x3, Value.slice a4 n4 c4, Value.slice a5 n5 c5, Value.int .i64 x6, Value.int .i64 x7, Value.slice a8 n8 c8] 83)
  have hn40 : n4 ≤ 1048576 := Nat.le_trans (szMessage_n z4 n4) hn4
  have i4 : (n4 : Int) ≤ 1048576 := by omega
  have i5 : (n5 : Int) ≤ 1048576 := by omega
  have i8 : (n8 : Int) ≤ 1048576 := by omega
  have u0 : (w.alloc (Obj.cells #[Value.int .i64 x0, Value.int .i64 x1, Value.int .i64 x2, Value.int .i64 x3, Value.slice a4 n4 c4, Value.slice a5 n5 c5, Value.int .i64 x6, Value.int .i64 x7, Value.slice a8 n8 c8] 83)).cell? ⟨w.heap.size, 0, none⟩ = some (.int .i64 x0) := by simp [go_sem]
  have u1 : (w.alloc (Obj.cells #[Value.int .i64 x0, Value.int .i64 x1, Value.int .i64 x2, Value.int .i64 x3, Value.slice a4 n4 c4, Value.slice a5 n5 c5, Value.int .i64 x6, Value.int .i64 x7, Value.slice a8 n8 c8] 83)).cell? ⟨w.heap.size, 1, none⟩ = some (.int .i64 x1) := by simp [go_sem]
  have u2 : (w.alloc (Obj.cells #[Value.int .i64 x0, Value.int .i64 x1, Value.int .i64 x2, Value.int .i64 x3, Value.slice a4 n4 c4, Value.slice a5 n5 c5, Value.int .i64 x6, Value.int .i64 x7, Value.slice a8 n8 c8] 83)).cell? ⟨w.heap.size, 2, none⟩ = some (.int .i64 x2) := by simp [go_sem]
  have u3 : (w.alloc (Obj.cells #[Value.int .i64 x0, Value.int .i64 x1, Value.int .i64 x2, Value.int .i64 x3, Value.slice a4 n4 c4, Value.slice a5 n5 c5, Value.int .i64 x6, Value.int .i64 x7, Value.slice a8 n8 c8] 83)).cell? ⟨w.heap.size, 3, none⟩ = some (.int .i64 x3) := by simp [go_sem]
  have u4 : (w.alloc (Obj.cells #[Value.int .i64 x0, Value.int .i64 x1, Value.int .i64 x2, Value.int .i64 x3, Value.slice a4 n4 c4, Value.slice a5 n5 c5, Value.int .i64 x6, Value.int .i64 x7, Value.slice a8 n8 c8] 83)).cell? ⟨w.heap.size, 4, none⟩ = some (.slice a4 n4 c4) := by simp [go_sem]
  have u5 : (w.alloc (Obj.cells #[Value.int .i64 x0, Value.int .i64 x1, Value.int .i64 x2, Value.int .i64 x3, Value.slice a4 n4 c4, Value.slice a5 n5 c5, Value.int .i64 x6, Value.int .i64 x7, Value.slice a8 n8 c8] 83)).cell? ⟨w.heap.size, 5, none⟩ = some (.slice a5 n5 c5) := by simp [go_sem]
  have u6 : (w.alloc (Obj.cells #[Value.int .i64 x0, Value.int .i64 x1, Value.int .i64 x2, Value.int .i64 x3, Value.slice a4 n4 c4, Value.slice a5 n5 c5, Value.int .i64 x6, Value.int .i64 x7, Value.slice a8 n8 c8] 83)).cell? ⟨w.heap.size, 6, none⟩ = some (.int .i64 x6) := by simp [go_sem]
  have u7 : (w.alloc (Obj.cells #[Value.int .i64 x0, Value.int .i64 x1, Value.int .i64 x2, Value.int .i64 x3, Value.slice a4 n4 c4, Value.slice a5 n5 c5, Value.int .i64 x6, Value.int .i64 x7, Value.slice a8 n8 c8] 83)).cell? ⟨w.heap.size, 7, none⟩ = some (.int .i64 x7) := by simp [go_sem]
  have u8 : (w.alloc (Obj.cells #[Value.int .i64 x0, Value.int .i64 x1, Value.int .i64 x2, Value.int .i64 x3, Value.slice a4 n4 c4, Value.slice a5 n5 c5, Value.int .i64 x6, Value.int .i64 x7, Value.slice a8 n8 c8] 83)).cell? ⟨w.heap.size, 8, none⟩ = some (.slice a8 n8 c8) := by simp [go_sem]
  go_enter Try.func37, Try.ntmps37
  go_wp2_with fail
  refine (areEnds x0 x1 _).mono ?_
  rintro e w' ⟨he, rfl⟩
  cases h1 : (inB x0 0 7 && (inB x1 0 7 && !(x0 == x1)))
  · rw [h1] at he
    subst he
    have H1 := Lib.hid h1
    clear h1
    go_wp2_with fail
    go_ret
    exact ⟨retB (by rw [vfl_assoc, H1.out]; rfl), M0⟩
  · rw [h1] at he
    subst he
    have H1 := Lib.hid h1
    clear h1
    go_wp2_with fail
    refine (implIn x2 0 100000 _).mono ?_
    rintro e w' ⟨he, rfl⟩
    cases h2 : inB x2 0 100000
    · rw [h2] at he
      subst he
      have H2 := Lib.hid h2
      clear h2
      go_wp2_with fail
      go_ret
      exact ⟨retB (by unfold vFlB; simp [H2.out]), M0⟩
    · rw [h2] at he
      subst he
      have H2 := Lib.hid h2
      clear h2
      go_wp2_with fail
      refine (areMsgs a4 n4 c4 B z4 _ (h4.mk M0 hB (.inr (Nat.le_refl _))) (Nat.le_trans hB M0.size) hn4).mono ?_
      rintro e w3 ⟨he, m3⟩
      replace u0 := m3.cellAt u0
      replace u1 := m3.cellAt u1
      replace u2 := m3.cellAt u2
      replace u3 := m3.cellAt u3
      replace u4 := m3.cellAt u4
      replace u5 := m3.cellAt u5
      replace u6 := m3.cellAt u6
      replace u7 := m3.cellAt u7
      replace u8 := m3.cellAt u8
      have M3 := M0.trans m3
      cases h3 : (decide ((n4 : Int) ≤ 20) && !(longB z4 n4))
      · rw [h3] at he
        subst he
        have H3 := Lib.hid h3
        clear h3
        go_wp2_with fail
        go_ret
        exact ⟨retB (by rw [vfl_assoc, H3.out]; simp), M3⟩
      · rw [h3] at he
        subst he
        have H3 := Lib.hid h3
        clear h3
        go_wp2_with fail
        refine (implIn x3 0 _ _).mono ?_
        rintro e w' ⟨he, rfl⟩
        cases h4_ : inB x3 0 (n4 : Int)
        · rw [h4_] at he
          subst he
          have H4 := Lib.hid h4_
          clear h4_
          go_wp2_with fail
          go_ret
          exact ⟨retB (by unfold vFlB; simp [H4.out]), M3⟩
        · rw [h4_] at he
          subst he
          have H4 := Lib.hid h4_
          clear h4_
          by_cases h5 : (n5 : Int) ≤ 24
          · have H5 := Lib.hid (show decide ((n5 : Int) ≤ 24) = true from decide_eq_true h5)
            cases h6 : (x6 == 0)
            · have H6' := Lib.hid h6
              go_wp2_with fail
              refine (hasPth w.heap.size x6 a5 n5 c5 _ u6 u5 hn5).mono ?_
              rintro e w4 ⟨he, m4⟩
              replace u0 := m4.cellAt u0
              replace u1 := m4.cellAt u1
              replace u2 := m4.cellAt u2
              replace u3 := m4.cellAt u3
              replace u4 := m4.cellAt u4
              replace u5 := m4.cellAt u5
              replace u6 := m4.cellAt u6
              replace u7 := m4.cellAt u7
              replace u8 := m4.cellAt u8
              have M4 := M3.trans m4
              cases h7 : inB x6 0 ((n5 : Int) - 1)
              · rw [h7] at he
                subst he
                have H6 := Lib.hid (show curOk x6 n5 = false by unfold curOk; rw [H6'.out, h7]; rfl)
                clear h7
                go_wp2_with fail
                go_ret
                exact ⟨retB (by unfold vFlB; simp [H6.out]), M4⟩
              · rw [h7] at he
                subst he
                have H6 := Lib.hid (show curOk x6 n5 = true by unfold curOk; rw [H6'.out, h7]; rfl)
                clear h7
                go_wp2_with fail
                refine (implIn x7 0 4 _).mono ?_
                rintro e w' ⟨he, rfl⟩
                cases h7 : inB x7 0 4
                · rw [h7] at he
                  subst he
                  have H7 := Lib.hid h7
                  clear h7
                  go_wp2_with fail
                  go_ret
                  exact ⟨retB (by unfold vFlB; simp [H7.out]), M4⟩
                · rw [h7] at he
                  subst he
                  have H7 := Lib.hid h7
                  clear h7
                  by_cases h9 : (n8 : Int) ≤ 16
                  · have H8 := Lib.hid (show decide ((n8 : Int) ≤ 16) = true from decide_eq_true h9)
                    go_wp2_with fail
                    refine (containsBad a8 n8 c8 B z8 _ (h8.mk M4 hB (.inr (Nat.le_refl _))) (Nat.le_trans hB M4.size) hn8).mono ?_
                    rintro e w9 ⟨rfl, m9⟩
                    go_wp2_with fail
                    go_ret
                    exact ⟨retB (by rw [vfl_assoc, H1.out, H2.out, H3.out, H4.out, H5.out, H6.out, H7.out, H8.out]; rfl), M4.trans m9⟩
                  · have H8 := Lib.hid (show decide ((n8 : Int) ≤ 16) = false from decide_eq_false h9)
                    replace h9 : (16 : Int) < (n8 : Int) := by omega
                    go_wp2_with fail
                    go_ret
                    exact ⟨retB (by unfold vFlB; simp [H8.out]), M4⟩
            · have H6 := Lib.hid (show curOk x6 n5 = true by unfold curOk; rw [h6]; rfl)
              go_wp2_with fail
              refine (implIn x7 0 4 _).mono ?_
              rintro e w' ⟨he, rfl⟩
              cases h7 : inB x7 0 4
              · rw [h7] at he
                subst he
                have H7 := Lib.hid h7
                clear h7
                go_wp2_with fail
                go_ret
                exact ⟨retB (by unfold vFlB; simp [H7.out]), M3⟩
              · rw [h7] at he
                subst he
                have H7 := Lib.hid h7
                clear h7
                by_cases h9 : (n8 : Int) ≤ 16
                · have H8 := Lib.hid (show decide ((n8 : Int) ≤ 16) = true from decide_eq_true h9)
                  go_wp2_with fail
                  refine (containsBad a8 n8 c8 B z8 _ (h8.mk M3 hB (.inr (Nat.le_refl _))) (Nat.le_trans hB M3.size) hn8).mono ?_
                  rintro e w9 ⟨rfl, m9⟩
                  go_wp2_with fail
                  go_ret
                  exact ⟨retB (by rw [vfl_assoc, H1.out, H2.out, H3.out, H4.out, H5.out, H6.out, H7.out, H8.out]; rfl), M3.trans m9⟩
                · have H8 := Lib.hid (show decide ((n8 : Int) ≤ 16) = false from decide_eq_false h9)
                  replace h9 : (16 : Int) < (n8 : Int) := by omega
                  go_wp2_with fail
                  go_ret
                  exact ⟨retB (by unfold vFlB; simp [H8.out]), M3⟩
          · have H5 := Lib.hid (show decide ((n5 : Int) ≤ 24) = false from decide_eq_false h5)
            replace h5 : (24 : Int) < (n5 : Int) := by omega
            go_wp2_with fail
            go_ret
            exact ⟨retB (by unfold vFlB; simp [H5.out]), M3⟩

end Go.Proofs.Ytkmofhpipcodbaa
