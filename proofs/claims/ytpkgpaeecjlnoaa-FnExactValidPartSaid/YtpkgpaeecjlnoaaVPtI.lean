
/- ValidPart of the program. -/
import Derived.Test.YtpkgpaeecjlnoaaVPtM
import Derived.Test.YtpkgpaeecjlnoaaSetOps
namespace Go.Proofs.Ytpkgpaeecjlnoaa
open Go.ChangeShapes Go.WideShapes Go.ChangeAt Go.RowKit
set_option linter.unusedVariables false
set_option maxRecDepth 100000 in
set_option maxHeartbeats 4000000 in
theorem implVPt (a0 a1 : Option Addr) (n0 c0 n1 c1 B : Nat) (zl : List TLink) (x0 x1 x2 : Int) (a : Option Addr) (n c B' : Nat) (zs : List THop) (w : World) (hl : HasLink w B a1 n1 zl) (hB : B ≤ w.heap.size) (hn0 : n0 ≤ 1048576) (hn1 : n1 ≤ 1048576) (h : HasHop w B' a n zs) (hB' : B' ≤ w.heap.size) (hn : n ≤ 1048576) :
    Calls Try.prog 53 #[.agg #[.slice a0 n0 c0, .slice a1 n1 c1], .agg #[.int .i64 x0, .int .i64 x1, .int .i64 x2, .slice a n c]] w fun e w' => e = .returned (.bool (vpB n0 zl n1 x0 x1 x2 zs n)) ∧ Mk0 w w' := by
  have M0 := (Mk.alloc w (Obj.cells #[Value.slice a0 n0 c0, Value.slice a1 n1 c1] 35)).new (Obj.cells #[Value.int .i64 x0, Value.int .i64 x1, Value.int .i64 x2, Value.slice a n c] 70)
  have k0 : ((w.alloc (Obj.cells #[Value.slice a0 n0 c0, Value.slice a1 n1 c1] 35)).alloc (Obj.cells #[Value.int .i64 x0, Value.int .i64 x1, Value.int .i64 x2, Value.slice a n c] 70)).cell? ⟨w.heap.size, 0, none⟩ = some (.slice a0 n0 c0) := by simp [go_sem]
  have k1 : ((w.alloc (Obj.cells #[Value.slice a0 n0 c0, Value.slice a1 n1 c1] 35)).alloc (Obj.cells #[Value.int .i64 x0, Value.int .i64 x1, Value.int .i64 x2, Value.slice a n c] 70)).cell? ⟨w.heap.size, 1, none⟩ = some (.slice a1 n1 c1) := by simp [go_sem]
  have p0 : ((w.alloc (Obj.cells #[Value.slice a0 n0 c0, Value.slice a1 n1 c1] 35)).alloc (Obj.cells #[Value.int .i64 x0, Value.int .i64 x1, Value.int .i64 x2, Value.slice a n c] 70)).cell? ⟨w.heap.size + 1, 0, none⟩ = some (.int .i64 x0) := by simp [go_sem]
  have p1 : ((w.alloc (Obj.cells #[Value.slice a0 n0 c0, Value.slice a1 n1 c1] 35)).alloc (Obj.cells #[Value.int .i64 x0, Value.int .i64 x1, Value.int .i64 x2, Value.slice a n c] 70)).cell? ⟨w.heap.size + 1, 1, none⟩ = some (.int .i64 x1) := by simp [go_sem]
  have p2 : ((w.alloc (Obj.cells #[Value.slice a0 n0 c0, Value.slice a1 n1 c1] 35)).alloc (Obj.cells #[Value.int .i64 x0, Value.int .i64 x1, Value.int .i64 x2, Value.slice a n c] 70)).cell? ⟨w.heap.size + 1, 2, none⟩ = some (.int .i64 x2) := by simp [go_sem]
  have p3 : ((w.alloc (Obj.cells #[Value.slice a0 n0 c0, Value.slice a1 n1 c1] 35)).alloc (Obj.cells #[Value.int .i64 x0, Value.int .i64 x1, Value.int .i64 x2, Value.slice a n c] 70)).cell? ⟨w.heap.size + 1, 3, none⟩ = some (.slice a n c) := by simp [go_sem]
  go_enter Try.func53, Try.ntmps53
  go_wp2_with fail
  refine (implPK x0 _).mono ?_
  rintro e w2 ⟨rfl, m2⟩
  replace k0 := m2.cellAt k0
  replace k1 := m2.cellAt k1
  replace p0 := m2.cellAt p0
  replace p1 := m2.cellAt p1
  replace p2 := m2.cellAt p2
  replace p3 := m2.cellAt p3
  have M2 := M0.trans m2
  cases g0 : inB x0 1 4
  · have HR := Lib.hid (show vpB n0 zl n1 x0 x1 x2 zs n = false by unfold vpB vpH; rw [g0]; rfl)
    go_wp2_with fail
    go_ret
    exact ⟨retB HR.out.symm, M2⟩
  · go_wp2_with fail
    refine (implTime x1 _).mono ?_
    rintro e w' ⟨rfl, rfl⟩
    cases g1 : inB x1 0 1000000
    · have HR := Lib.hid (show vpB n0 zl n1 x0 x1 x2 zs n = false by unfold vpB vpH; rw [g0, g1]; rfl)
      go_wp2_with fail
      go_ret
      exact ⟨retB HR.out.symm, M2⟩
    · go_wp2_with fail
      refine (implRes x2 _).mono ?_
      rintro e w' ⟨rfl, rfl⟩
      cases g2 : inB x2 0 2147483646
      · have HR := Lib.hid (show vpB n0 zl n1 x0 x1 x2 zs n = false by unfold vpB vpH; rw [g0, g1, g2]; rfl)
        go_wp2_with fail
        go_ret
        exact ⟨retB HR.out.symm, M2⟩
      · go_wp2_with fail
        refine (implIn (n : Int) 1 8 _).mono ?_
        rintro e w' ⟨rfl, rfl⟩
        cases g3 : inB (n : Int) 1 8
        · have HR := Lib.hid (show vpB n0 zl n1 x0 x1 x2 zs n = false by unfold vpB vpH; rw [g0, g1, g2, g3]; rfl)
          go_wp2_with fail
          go_ret
          exact ⟨retB HR.out.symm, M2⟩
        · have HR := Lib.hid (show vpB n0 zl n1 x0 x1 x2 zs n = allN (vpI n0 zl n1 x0 zs n) n by unfold vpB vpH; rw [g0, g1, g2, g3]; rfl)
          have hn8 : n ≤ 8 := by unfold inB at g3; have := of_decide_eq_true g3; omega
          clear g0 g1 g2 g3
          go_wp2_with fail
          go_loopw [4, 5, 34] (fun r v i wr => r = .bool false ∧ ∃ k : Nat, k ≤ n ∧ i = .int .i64 k ∧ v = .int .i64 (seenS (ndAt zs) k) ∧ Hid (allN (vpI n0 zl n1 x0 zs n) k = true) ∧ Mk0 w2 wr) (fun _ _ i _ => n - (intOf i).toNat)
          case atStart => exact ⟨rfl, 0, Nat.zero_le _, rfl, rfl, rfl, Mk.refl _ _ _⟩
          case round =>
            obtain ⟨rfl, k, hk, rfl, rfl, hS, hM⟩ := hrel
            replace k0 := hM.cellAt k0
            replace k1 := hM.cellAt k1
            replace p0 := hM.cellAt p0
            replace p1 := hM.cellAt p1
            replace p2 := hM.cellAt p2
            replace p3 := hM.cellAt p3
            have hM' := M2.trans hM
            by_cases hlt : k < n
            · obtain ⟨b, off, x, eb, hb2, hx, d0, d1, d2, d3, d4⟩ := HasHop.at _ _ _ _ _ _ (h.mk hM' hB' (.inr (Nat.le_refl _))) hlt
              subst eb
              have hbr := World.block_lt_of_cell? _ _ d0
              have hbq := World.block_lt_of_cell? _ _ k0
              have hbj := World.block_lt_of_cell? _ _ p3
              simp only at hbr hbq hbj
              have i1 : (0 : Int) ≤ (k : Int) := by omega
              have i2 : (k : Int) < (n : Int) := by omega
              have MX := Mk.alloc wr (Obj.cells #[Value.int .i64 x.nd, Value.int .i64 x.ing, Value.int .i64 x.eg, Value.int .i64 x.exp, Value.int .i64 x.mac] 131)
              have q0 : (wr.alloc (Obj.cells #[Value.int .i64 x.nd, Value.int .i64 x.ing, Value.int .i64 x.eg, Value.int .i64 x.exp, Value.int .i64 x.mac] 131)).cell? ⟨wr.heap.size, 0, none⟩ = some (.int .i64 x.nd) := by simp [go_sem]
              have q1 : (wr.alloc (Obj.cells #[Value.int .i64 x.nd, Value.int .i64 x.ing, Value.int .i64 x.eg, Value.int .i64 x.exp, Value.int .i64 x.mac] 131)).cell? ⟨wr.heap.size, 1, none⟩ = some (.int .i64 x.ing) := by simp [go_sem]
              have q2 : (wr.alloc (Obj.cells #[Value.int .i64 x.nd, Value.int .i64 x.ing, Value.int .i64 x.eg, Value.int .i64 x.exp, Value.int .i64 x.mac] 131)).cell? ⟨wr.heap.size, 2, none⟩ = some (.int .i64 x.eg) := by simp [go_sem]
              have q3 : (wr.alloc (Obj.cells #[Value.int .i64 x.nd, Value.int .i64 x.ing, Value.int .i64 x.eg, Value.int .i64 x.exp, Value.int .i64 x.mac] 131)).cell? ⟨wr.heap.size, 3, none⟩ = some (.int .i64 x.exp) := by simp [go_sem]
              have q4 : (wr.alloc (Obj.cells #[Value.int .i64 x.nd, Value.int .i64 x.ing, Value.int .i64 x.eg, Value.int .i64 x.exp, Value.int .i64 x.mac] 131)).cell? ⟨wr.heap.size, 4, none⟩ = some (.int .i64 x.mac) := by simp [go_sem]
              replace k0 := MX.cellAt k0
              replace k1 := MX.cellAt k1
              replace p0 := MX.cellAt p0
              replace p1 := MX.cellAt p1
              replace p2 := MX.cellAt p2
              replace p3 := MX.cellAt p3
              have MR := hM'.trans MX
              have hMX := hM.trans MX
              go_wp2_with fail
              refine (implVHop x.nd x.ing x.eg x.exp x.mac _).mono ?_
              rintro e w3 ⟨he, m3⟩
              replace he := he.trans (show _ = Ending.returned (.bool (hopOk x)) from rfl)
              subst he
              replace k0 := m3.cellAt k0
              replace k1 := m3.cellAt k1
              replace p0 := m3.cellAt p0
              replace p1 := m3.cellAt p1
              replace p2 := m3.cellAt p2
              replace p3 := m3.cellAt p3
              replace q0 := m3.cellAt q0
              replace q1 := m3.cellAt q1
              replace q2 := m3.cellAt q2
              replace q3 := m3.cellAt q3
              replace q4 := m3.cellAt q4
              have M3 := MR.trans m3
              have N3 := hMX.trans m3
              cases hA : hopOk x
              · have HE := Lib.hid (allN_stop (p := vpI n0 zl n1 x0 zs n) (n := n) (show vpI n0 zl n1 x0 zs n k = false by unfold vpI; rw [← hx.out, hA]; rfl) hlt)
                go_wp2_with fail
                go_ret
                exact ⟨retB (by rw [HR.out, HE.out]), M3⟩
              · have hnd := hA
                simp only [hopOk, decide_eq_true_eq] at hnd
                replace hnd := hnd.1
                have HA := Lib.hid hA
                clear hA
                go_wp2_with fail
                refine (implIsAS a0 a1 n0 c0 n1 c1 x.nd _ hn0).mono ?_
                rintro e w4 ⟨rfl, m4⟩
                replace k0 := m4.cellAt k0
                replace k1 := m4.cellAt k1
                replace p0 := m4.cellAt p0
                replace p1 := m4.cellAt p1
                replace p2 := m4.cellAt p2
                replace p3 := m4.cellAt p3
                replace q0 := m4.cellAt q0
                replace q1 := m4.cellAt q1
                replace q2 := m4.cellAt q2
                replace q3 := m4.cellAt q3
                replace q4 := m4.cellAt q4
                have M4 := M3.trans m4
                have N4 := N3.trans m4
                cases hB2 : isAsB n0 x.nd
                · have HE := Lib.hid (allN_stop (p := vpI n0 zl n1 x0 zs n) (n := n) (show vpI n0 zl n1 x0 zs n k = false by unfold vpI; rw [← hx.out, HA.out, hB2]; rfl) hlt)
                  go_wp2_with fail
                  go_ret
                  exact ⟨retB (by rw [HR.out, HE.out]), M4⟩
                · have HBq := Lib.hid hB2
                  clear hB2
                  have hso := seenS_ok (ndAt zs) k (vp_nd hS.out)
                  have HH := Lib.hid (hso.2 x.nd (by omega) (by omega))
                  clear hso
                  obtain ⟨S, hSS⟩ : ∃ S, Hid (S = seenS (ndAt zs) k) := ⟨_, Lib.hid rfl⟩
                  rw [← hSS.out] at HH ⊢
                  go_wp2_with fail
                  refine (implContains S x.nd _).mono ?_
                  rintro e w' ⟨rfl, rfl⟩
                  rw [HH.out]
                  cases hC : inUp (ndAt zs) x.nd k
                  · have HCq := Lib.hid hC
                    clear hC
                    have HV := Lib.hid (show seenS (ndAt zs) (k + 1) = addV S x.nd by rw [hSS.out, seenS]; unfold ndAt; rw [← hx.out])
                    rcases Nat.eq_zero_or_pos k with hk0 | hk0
                    · have hkb : (k == 0) = true := by simp [hk0]
                      have hk1 : decide ((0 : Int) < (k : Int)) = false := decide_eq_false (by omega)
                      have hk1n : decide (0 < k) = false := decide_eq_false (by omega)
                      have HE := Lib.hid (allN_go hS.out (show vpI n0 zl n1 x0 zs n k = true by unfold vpI; rw [← hx.out, HA.out, HBq.out, HCq.out, hkb]; rfl))
                      clear hk0 hkb
                      have hbE := World.block_lt_of_cell? _ _ q0
                      simp only at hbE
                      go_wp2_with fail
                      refine (implAddElement S x.nd _).mono ?_
                      rintro e w' ⟨rfl, rfl⟩
                      go_wp2_with fail
                      go_roundw
                      case rel => exact ⟨rfl, k + 1, by omega, by go_num, congrArg (Value.int .i64) HV.out.symm, HE.out, N4⟩
                      case measure => simp [intOf]; omega
                    · obtain ⟨q, hq⟩ : ∃ q, Hid (k = q + 1) := ⟨k - 1, by show k = k - 1 + 1; omega⟩
                      have hw3 : IntKind.i64.wrap ((k : Int) - 1) = (q : Int) := by rw [IntKind.wrap_i64]; have := hq.out; omega
                      have hw3' : (k : Int) - 1 = (q : Int) := by have := hq.out; omega
                      have hqn : q + 1 < n := by have := hq.out; omega
                      have hkb : (k == 0) = false := by simp; omega
                      have hqk := Lib.hid (show q = k - 1 by have := hq.out; omega)
                      have hk1 : decide ((0 : Int) < (k : Int)) = true := decide_eq_true (by omega)
                      have hk1n : decide (0 < k) = true := decide_eq_true (by omega)
                      have HW3 := Lib.hid hw3'
                      clear hw3' hw3
                      go_wp2_with fail
                      rw [HW3.out]
                      refine (implLeads a0 a1 n0 c0 n1 c1 B zl x0 x1 x2 _ n c B' zs q _ (hl.mk M4 hB (.inr (Nat.le_refl _))) (Nat.le_trans hB M4.size) hn1 (h.mk M4 hB' (.inr (Nat.le_refl _))) (Nat.le_trans hB' M4.size) hn hqn).mono ?_
                      rintro e w5 ⟨rfl, m5⟩
                      replace k0 := m5.cellAt k0
                      replace k1 := m5.cellAt k1
                      replace p0 := m5.cellAt p0
                      replace p1 := m5.cellAt p1
                      replace p2 := m5.cellAt p2
                      replace p3 := m5.cellAt p3
                      replace q0 := m5.cellAt q0
                      replace q1 := m5.cellAt q1
                      replace q2 := m5.cellAt q2
                      replace q3 := m5.cellAt q3
                      replace q4 := m5.cellAt q4
                      have M5 := M4.trans m5
                      have N5 := N4.trans m5
                      cases hL : leadB zl n1 x0 zs n q
                      · have HE := Lib.hid (allN_stop (p := vpI n0 zl n1 x0 zs n) (n := n) (show vpI n0 zl n1 x0 zs n k = false by unfold vpI; rw [← hx.out, HA.out, HBq.out, HCq.out, hkb, ← hqk.out, hL]; rfl) hlt)
                        go_wp2_with fail
                        go_ret
                        exact ⟨retB (by rw [HR.out, HE.out]), M5⟩
                      · have HE := Lib.hid (allN_go hS.out (show vpI n0 zl n1 x0 zs n k = true by unfold vpI; rw [← hx.out, HA.out, HBq.out, HCq.out, hkb, ← hqk.out, hL]; rfl))
                        clear hL hkb
                        have hbE := World.block_lt_of_cell? _ _ q0
                        simp only at hbE
                        go_wp2_with fail
                        refine (implAddElement S x.nd _).mono ?_
                        rintro e w' ⟨rfl, rfl⟩
                        go_wp2_with fail
                        go_roundw
                        case rel => exact ⟨rfl, k + 1, by omega, by go_num, congrArg (Value.int .i64) HV.out.symm, HE.out, N5⟩
                        case measure => simp [intOf]; omega
                  · have HE := Lib.hid (allN_stop (p := vpI n0 zl n1 x0 zs n) (n := n) (show vpI n0 zl n1 x0 zs n k = false by unfold vpI; rw [← hx.out, HA.out, HBq.out, hC]; rfl) hlt)
                    go_wp2_with fail
                    go_ret
                    exact ⟨retB (by rw [HR.out, HE.out]), M4⟩
            · obtain rfl : k = n := by omega
              go_wp2_with fail
              go_ret
              exact ⟨retB (by rw [HR.out, hS.out]), hM'⟩

end Go.Proofs.Ytpkgpaeecjlnoaa
