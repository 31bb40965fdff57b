
/- IssueCertificate of both sides. -/
import Derived.Test.YtoicmmandniagaaRealm
import Derived.Test.YtoicmmandniagaaDig
import Derived.Test.YtoicmmandniagaaSignAs2
import Derived.Test.YtoicmmandniagaaCData
import Derived.Test.YtoicmmandniagaaFk
import Derived.Test.YtoicmmandniagaaStepA
import Derived.Test.YtoicmmandniagaaRet
namespace Go.Proofs.Ytoicmmandniagaa
open Go.ChangeShapes Go.WideShapes Go.ChangeAt Go.RowKit
set_option linter.unusedVariables false
def icB (n0 : Nat) (r b : Int) : Bool := isAsB n0 r && isAsB n0 b
def icK (zA : List TAS) (r : Int) : Int := digN [(zA.getD r.toNat default).key] 1
def icV (zA : List TAS) (n0 : Nat) (r b ve fr un : Int) : Nat → Int
  | 0 => r
  | 1 => icK zA r
  | 2 => ve
  | 3 => fr
  | 4 => un
  | 5 => (sgV zA n0 b [r, icK zA r, ve, fr, un]).nd
  | _ => (sgV zA n0 b [r, icK zA r, ve, fr, un]).val
def icR (zA : List TAS) (n0 : Nat) (r b ve fr un : Int) (j : Nat) : Int := if icB n0 r b = true then icV zA n0 r b ve fr un j else 0
theorem icK_fits (zA : List TAS) (r : Int) : (Lit.int .i64 (icK zA r)).wf = true := by
  have h := digN_bd [(zA.getD r.toNat default).key] 1
  have e1 : IntKind.i64.min = -9223372036854775808 := by decide
  have e2 : IntKind.i64.max = 9223372036854775807 := by decide
  unfold icK
  simp only [Lit.wf, Bool.and_eq_true, decide_eq_true_eq]
  rw [e1, e2]
  omega
set_option maxRecDepth 100000 in
set_option maxHeartbeats 4000000 in
theorem implKD (a0 a1 : Option Addr) (n0 c0 n1 c1 B : Nat) (zA : List TAS) (q : Nat) (w : World) (hA : HasAS w B a0 n0 zA) (hB : B ≤ w.heap.size) (hn0 : n0 ≤ 1048576) (hq : q < n0) (hz : ∀ y ∈ zA, TAS.fits y) :
    Calls Try.prog 32 #[.agg #[.slice a0 n0 c0, .slice a1 n1 c1], .int .i64 (q : Int)] w fun e w' => e = .returned (.int .i64 (icK zA (q : Int))) ∧ Mk0 w w' := by
  obtain ⟨bA, oA, x, rfl, hbA, hx, d0, d1, d2⟩ := HasAS.at _ _ _ _ _ _ hA hq
  have i1 : (0 : Int) ≤ (q : Int) := by omega
  have i2 : (q : Int) < (n0 : Int) := by omega
  have HK := as_fits hA.1 hq hz hx.out
  have M0 := Mk.alloc w (Obj.cells #[Value.slice (some ⟨bA, oA, none⟩) n0 c0, Value.slice a1 n1 c1] 44)
  have k0 : (w.alloc (Obj.cells #[Value.slice (some ⟨bA, oA, none⟩) n0 c0, Value.slice a1 n1 c1] 44)).cell? ⟨w.heap.size, 0, none⟩ = some (.slice (some ⟨bA, oA, none⟩) n0 c0) := by simp [go_sem]
  have hbw : bA < w.heap.size := Nat.lt_of_lt_of_le hbA hB
  have e2 := d2
  replace d2 := M0.cellAt d2
  have hbr := World.block_lt_of_cell? _ _ d2
  simp only at hbr
  have cN : ((w.alloc (Obj.cells #[Value.slice (some ⟨bA, oA, none⟩) n0 c0, Value.slice a1 n1 c1] 44)).alloc (.cells #[.int .i64 x.key] 3)).cell? ⟨(w.alloc (Obj.cells #[Value.slice (some ⟨bA, oA, none⟩) n0 c0, Value.slice a1 n1 c1] 44)).heap.size, 0, none⟩ = some (.int .i64 x.key) := by simp [go_sem]
  have hD := implDigest (some ⟨(w.alloc (Obj.cells #[Value.slice (some ⟨bA, oA, none⟩) n0 c0, Value.slice a1 n1 c1] 44)).heap.size, 0, none⟩) 1 1 _ [x.key] ((w.alloc (Obj.cells #[Value.slice (some ⟨bA, oA, none⟩) n0 c0, Value.slice a1 n1 c1] 44)).alloc (.cells #[.int .i64 x.key] 3)) (has_one cN (World.block_lt_of_cell? _ _ cN)) (by intro z hz2; simp only [List.mem_cons, List.not_mem_nil, or_false] at hz2; subst hz2; exact HK) (by omega)
  simp only [World.size_alloc] at hD
  have HV := Lib.hid (show icK zA (q : Int) = digN [x.key] 1 by unfold icK; rw [Int.toNat_natCast, ← hx.out])
  go_enter Try.func32, Try.ntmps32
  go_wp2_with fail
  refine hD.mono ?_
  rintro e w' ⟨rfl, rfl⟩
  go_wp2_with fail
  go_ret
  exact ⟨retI HV.out.symm, M0.trans (Mk.alloc _ _)⟩

set_option maxRecDepth 100000 in
set_option maxHeartbeats 16000000 in
theorem specIssue (a0 a1 : Option Addr) (n0 c0 n1 c1 B : Nat) (zA : List TAS) (r b ve fr un : Int) (w : World) (hA : HasAS w B a0 n0 zA) (hB : B ≤ w.heap.size) (hn0 : n0 ≤ 1048576) (hz : ∀ y ∈ zA, TAS.fits y) (hr : (Lit.int .i64 r).wf = true) (hve : (Lit.int .i64 ve).wf = true) (hfr : (Lit.int .i64 fr).wf = true) (hun : (Lit.int .i64 un).wf = true) :
    Calls Try.prog 12 #[.agg #[.slice a0 n0 c0, .slice a1 n1 c1], .int .i64 r, .int .i64 b, .int .i64 ve, .int .i64 fr, .int .i64 un] w fun e w' => e = .returned (.agg #[.int .i64 (icR zA n0 r b ve fr un 0), .int .i64 (icR zA n0 r b ve fr un 1), .int .i64 (icR zA n0 r b ve fr un 2), .int .i64 (icR zA n0 r b ve fr un 3), .int .i64 (icR zA n0 r b ve fr un 4), .int .i64 (icR zA n0 r b ve fr un 5), .int .i64 (icR zA n0 r b ve fr un 6)]) ∧ Mk0 w w' := by
  have M := (Mk.alloc w (Obj.cells #[Value.slice a0 n0 c0, Value.slice a1 n1 c1] 44)).new (Obj.cells #[Value.int .i64 0, Value.int .i64 0, Value.int .i64 0, Value.int .i64 0, Value.int .i64 0, Value.int .i64 0, Value.int .i64 0] 39)
  have k0 : ((w.alloc (Obj.cells #[Value.slice a0 n0 c0, Value.slice a1 n1 c1] 44)).alloc (Obj.cells #[Value.int .i64 0, Value.int .i64 0, Value.int .i64 0, Value.int .i64 0, Value.int .i64 0, Value.int .i64 0, Value.int .i64 0] 39)).cell? ⟨w.heap.size, 0, none⟩ = some (.slice a0 n0 c0) := by simp [go_sem]
  have k1 : ((w.alloc (Obj.cells #[Value.slice a0 n0 c0, Value.slice a1 n1 c1] 44)).alloc (Obj.cells #[Value.int .i64 0, Value.int .i64 0, Value.int .i64 0, Value.int .i64 0, Value.int .i64 0, Value.int .i64 0, Value.int .i64 0] 39)).cell? ⟨w.heap.size, 1, none⟩ = some (.slice a1 n1 c1) := by simp [go_sem]
  have r0 : ((w.alloc (Obj.cells #[Value.slice a0 n0 c0, Value.slice a1 n1 c1] 44)).alloc (Obj.cells #[Value.int .i64 0, Value.int .i64 0, Value.int .i64 0, Value.int .i64 0, Value.int .i64 0, Value.int .i64 0, Value.int .i64 0] 39)).cell? ⟨w.heap.size + 1, 0, none⟩ = some (.int .i64 0) := by simp [go_sem]
  have r1 : ((w.alloc (Obj.cells #[Value.slice a0 n0 c0, Value.slice a1 n1 c1] 44)).alloc (Obj.cells #[Value.int .i64 0, Value.int .i64 0, Value.int .i64 0, Value.int .i64 0, Value.int .i64 0, Value.int .i64 0, Value.int .i64 0] 39)).cell? ⟨w.heap.size + 1, 1, none⟩ = some (.int .i64 0) := by simp [go_sem]
  have r2 : ((w.alloc (Obj.cells #[Value.slice a0 n0 c0, Value.slice a1 n1 c1] 44)).alloc (Obj.cells #[Value.int .i64 0, Value.int .i64 0, Value.int .i64 0, Value.int .i64 0, Value.int .i64 0, Value.int .i64 0, Value.int .i64 0] 39)).cell? ⟨w.heap.size + 1, 2, none⟩ = some (.int .i64 0) := by simp [go_sem]
  have r3 : ((w.alloc (Obj.cells #[Value.slice a0 n0 c0, Value.slice a1 n1 c1] 44)).alloc (Obj.cells #[Value.int .i64 0, Value.int .i64 0, Value.int .i64 0, Value.int .i64 0, Value.int .i64 0, Value.int .i64 0, Value.int .i64 0] 39)).cell? ⟨w.heap.size + 1, 3, none⟩ = some (.int .i64 0) := by simp [go_sem]
  have r4 : ((w.alloc (Obj.cells #[Value.slice a0 n0 c0, Value.slice a1 n1 c1] 44)).alloc (Obj.cells #[Value.int .i64 0, Value.int .i64 0, Value.int .i64 0, Value.int .i64 0, Value.int .i64 0, Value.int .i64 0, Value.int .i64 0] 39)).cell? ⟨w.heap.size + 1, 4, none⟩ = some (.int .i64 0) := by simp [go_sem]
  have r5 : ((w.alloc (Obj.cells #[Value.slice a0 n0 c0, Value.slice a1 n1 c1] 44)).alloc (Obj.cells #[Value.int .i64 0, Value.int .i64 0, Value.int .i64 0, Value.int .i64 0, Value.int .i64 0, Value.int .i64 0, Value.int .i64 0] 39)).cell? ⟨w.heap.size + 1, 5, none⟩ = some (.int .i64 0) := by simp [go_sem]
  have r6 : ((w.alloc (Obj.cells #[Value.slice a0 n0 c0, Value.slice a1 n1 c1] 44)).alloc (Obj.cells #[Value.int .i64 0, Value.int .i64 0, Value.int .i64 0, Value.int .i64 0, Value.int .i64 0, Value.int .i64 0, Value.int .i64 0] 39)).cell? ⟨w.heap.size + 1, 6, none⟩ = some (.int .i64 0) := by simp [go_sem]
  have fR : ∀ q, ((w.alloc (Obj.cells #[Value.slice a0 n0 c0, Value.slice a1 n1 c1] 44)).alloc (Obj.cells #[Value.int .i64 0, Value.int .i64 0, Value.int .i64 0, Value.int .i64 0, Value.int .i64 0, Value.int .i64 0, Value.int .i64 0] 39)).frozen? ⟨w.heap.size + 1, q, none⟩ = false := fun q => by simp [go_sem]
  have hs2 : ((w.alloc (Obj.cells #[Value.slice a0 n0 c0, Value.slice a1 n1 c1] 44)).alloc (Obj.cells #[Value.int .i64 0, Value.int .i64 0, Value.int .i64 0, Value.int .i64 0, Value.int .i64 0, Value.int .i64 0, Value.int .i64 0] 39)).heap.size = w.heap.size + 1 + 1 := by simp only [World.size_alloc]
  go_enter Try.func12, Try.ntmps12
  go_wp2_with fail
  generalize ((w.alloc (Obj.cells #[Value.slice a0 n0 c0, Value.slice a1 n1 c1] 44)).alloc (Obj.cells #[Value.int .i64 0, Value.int .i64 0, Value.int .i64 0, Value.int .i64 0, Value.int .i64 0, Value.int .i64 0, Value.int .i64 0] 39)) = WW at *
  refine (specIsAS a0 a1 n0 c0 n1 c1 r _ hn0).mono ?_
  rintro e w2 ⟨he, m2⟩
  have zz2 := m2.size
  replace k0 := m2.cellAt k0
  replace k1 := m2.cellAt k1
  replace r0 := m2.cellAt r0
  replace r1 := m2.cellAt r1
  replace r2 := m2.cellAt r2
  replace r3 := m2.cellAt r3
  replace r4 := m2.cellAt r4
  replace r5 := m2.cellAt r5
  replace r6 := m2.cellAt r6
  replace fR := fun q => (m2.frozen (b := w.heap.size + 1) (o := q) (by omega) (.inr (Nat.zero_le _))).trans (fR q)
  replace M := M.trans m2
  cases q1 : isAsB n0 r
  · rw [q1] at he
    subst he
    have HR := Lib.hid (show icB n0 r b = false by unfold icB; rw [q1]; first | done | rfl | simp)
    go_wp2_with fail
    replace r0 := World.cell?_setCell_same _ _ (.int .i64 0) r0
    replace r1 := cell_set r1 ⟨w.heap.size + 1, 0, none⟩ (.int .i64 0) (.inr (by simp))
    replace r2 := cell_set r2 ⟨w.heap.size + 1, 0, none⟩ (.int .i64 0) (.inr (by simp))
    replace r3 := cell_set r3 ⟨w.heap.size + 1, 0, none⟩ (.int .i64 0) (.inr (by simp))
    replace r4 := cell_set r4 ⟨w.heap.size + 1, 0, none⟩ (.int .i64 0) (.inr (by simp))
    replace r5 := cell_set r5 ⟨w.heap.size + 1, 0, none⟩ (.int .i64 0) (.inr (by simp))
    replace r6 := cell_set r6 ⟨w.heap.size + 1, 0, none⟩ (.int .i64 0) (.inr (by simp))
    replace M := M.put ⟨w.heap.size + 1, 0, none⟩ (.int .i64 0) (show w.heap.size ≤ w.heap.size + 1 from by omega)
    replace r0 := cell_set r0 ⟨w.heap.size + 1, 1, none⟩ (.int .i64 0) (.inr (by simp))
    replace r1 := World.cell?_setCell_same _ _ (.int .i64 0) r1
    replace r2 := cell_set r2 ⟨w.heap.size + 1, 1, none⟩ (.int .i64 0) (.inr (by simp))
    replace r3 := cell_set r3 ⟨w.heap.size + 1, 1, none⟩ (.int .i64 0) (.inr (by simp))
    replace r4 := cell_set r4 ⟨w.heap.size + 1, 1, none⟩ (.int .i64 0) (.inr (by simp))
    replace r5 := cell_set r5 ⟨w.heap.size + 1, 1, none⟩ (.int .i64 0) (.inr (by simp))
    replace r6 := cell_set r6 ⟨w.heap.size + 1, 1, none⟩ (.int .i64 0) (.inr (by simp))
    replace M := M.put ⟨w.heap.size + 1, 1, none⟩ (.int .i64 0) (show w.heap.size ≤ w.heap.size + 1 from by omega)
    replace r0 := cell_set r0 ⟨w.heap.size + 1, 2, none⟩ (.int .i64 0) (.inr (by simp))
    replace r1 := cell_set r1 ⟨w.heap.size + 1, 2, none⟩ (.int .i64 0) (.inr (by simp))
    replace r2 := World.cell?_setCell_same _ _ (.int .i64 0) r2
    replace r3 := cell_set r3 ⟨w.heap.size + 1, 2, none⟩ (.int .i64 0) (.inr (by simp))
    replace r4 := cell_set r4 ⟨w.heap.size + 1, 2, none⟩ (.int .i64 0) (.inr (by simp))
    replace r5 := cell_set r5 ⟨w.heap.size + 1, 2, none⟩ (.int .i64 0) (.inr (by simp))
    replace r6 := cell_set r6 ⟨w.heap.size + 1, 2, none⟩ (.int .i64 0) (.inr (by simp))
    replace M := M.put ⟨w.heap.size + 1, 2, none⟩ (.int .i64 0) (show w.heap.size ≤ w.heap.size + 1 from by omega)
    replace r0 := cell_set r0 ⟨w.heap.size + 1, 3, none⟩ (.int .i64 0) (.inr (by simp))
    replace r1 := cell_set r1 ⟨w.heap.size + 1, 3, none⟩ (.int .i64 0) (.inr (by simp))
    replace r2 := cell_set r2 ⟨w.heap.size + 1, 3, none⟩ (.int .i64 0) (.inr (by simp))
    replace r3 := World.cell?_setCell_same _ _ (.int .i64 0) r3
    replace r4 := cell_set r4 ⟨w.heap.size + 1, 3, none⟩ (.int .i64 0) (.inr (by simp))
    replace r5 := cell_set r5 ⟨w.heap.size + 1, 3, none⟩ (.int .i64 0) (.inr (by simp))
    replace r6 := cell_set r6 ⟨w.heap.size + 1, 3, none⟩ (.int .i64 0) (.inr (by simp))
    replace M := M.put ⟨w.heap.size + 1, 3, none⟩ (.int .i64 0) (show w.heap.size ≤ w.heap.size + 1 from by omega)
    replace r0 := cell_set r0 ⟨w.heap.size + 1, 4, none⟩ (.int .i64 0) (.inr (by simp))
    replace r1 := cell_set r1 ⟨w.heap.size + 1, 4, none⟩ (.int .i64 0) (.inr (by simp))
    replace r2 := cell_set r2 ⟨w.heap.size + 1, 4, none⟩ (.int .i64 0) (.inr (by simp))
    replace r3 := cell_set r3 ⟨w.heap.size + 1, 4, none⟩ (.int .i64 0) (.inr (by simp))
    replace r4 := World.cell?_setCell_same _ _ (.int .i64 0) r4
    replace r5 := cell_set r5 ⟨w.heap.size + 1, 4, none⟩ (.int .i64 0) (.inr (by simp))
    replace r6 := cell_set r6 ⟨w.heap.size + 1, 4, none⟩ (.int .i64 0) (.inr (by simp))
    replace M := M.put ⟨w.heap.size + 1, 4, none⟩ (.int .i64 0) (show w.heap.size ≤ w.heap.size + 1 from by omega)
    replace r0 := cell_set r0 ⟨w.heap.size + 1, 5, none⟩ (.int .i64 0) (.inr (by simp))
    replace r1 := cell_set r1 ⟨w.heap.size + 1, 5, none⟩ (.int .i64 0) (.inr (by simp))
    replace r2 := cell_set r2 ⟨w.heap.size + 1, 5, none⟩ (.int .i64 0) (.inr (by simp))
    replace r3 := cell_set r3 ⟨w.heap.size + 1, 5, none⟩ (.int .i64 0) (.inr (by simp))
    replace r4 := cell_set r4 ⟨w.heap.size + 1, 5, none⟩ (.int .i64 0) (.inr (by simp))
    replace r5 := World.cell?_setCell_same _ _ (.int .i64 0) r5
    replace r6 := cell_set r6 ⟨w.heap.size + 1, 5, none⟩ (.int .i64 0) (.inr (by simp))
    replace M := M.put ⟨w.heap.size + 1, 5, none⟩ (.int .i64 0) (show w.heap.size ≤ w.heap.size + 1 from by omega)
    replace r0 := cell_set r0 ⟨w.heap.size + 1, 6, none⟩ (.int .i64 0) (.inr (by simp))
    replace r1 := cell_set r1 ⟨w.heap.size + 1, 6, none⟩ (.int .i64 0) (.inr (by simp))
    replace r2 := cell_set r2 ⟨w.heap.size + 1, 6, none⟩ (.int .i64 0) (.inr (by simp))
    replace r3 := cell_set r3 ⟨w.heap.size + 1, 6, none⟩ (.int .i64 0) (.inr (by simp))
    replace r4 := cell_set r4 ⟨w.heap.size + 1, 6, none⟩ (.int .i64 0) (.inr (by simp))
    replace r5 := cell_set r5 ⟨w.heap.size + 1, 6, none⟩ (.int .i64 0) (.inr (by simp))
    replace r6 := World.cell?_setCell_same _ _ (.int .i64 0) r6
    replace M := M.put ⟨w.heap.size + 1, 6, none⟩ (.int .i64 0) (show w.heap.size ≤ w.heap.size + 1 from by omega)
    generalize (((((((w2.setCell ⟨w.heap.size + 1, 0, none⟩ (.int .i64 0)).setCell ⟨w.heap.size + 1, 1, none⟩ (.int .i64 0)).setCell ⟨w.heap.size + 1, 2, none⟩ (.int .i64 0)).setCell ⟨w.heap.size + 1, 3, none⟩ (.int .i64 0)).setCell ⟨w.heap.size + 1, 4, none⟩ (.int .i64 0)).setCell ⟨w.heap.size + 1, 5, none⟩ (.int .i64 0)).setCell ⟨w.heap.size + 1, 6, none⟩ (.int .i64 0)) = WF at *
    refine bodyPost_ret (v := .agg #[.int .i64 0, .int .i64 0, .int .i64 0, .int .i64 0, .int .i64 0, .int .i64 0, .int .i64 0]) (by simp [results, Try.results12, go_sem, r0, r1, r2, r3, r4, r5, r6]) rfl ⟨?_, M⟩
    simp [icR, HR.out]
  · have Q1 := Lib.hid q1
    rw [q1] at he
    subst he
    go_wp2_with fail
    refine (specIsAS a0 a1 n0 c0 n1 c1 b _ hn0).mono ?_
    rintro e w3 ⟨he, m3⟩
    have zz3 := m3.size
    replace k0 := m3.cellAt k0
    replace k1 := m3.cellAt k1
    replace r0 := m3.cellAt r0
    replace r1 := m3.cellAt r1
    replace r2 := m3.cellAt r2
    replace r3 := m3.cellAt r3
    replace r4 := m3.cellAt r4
    replace r5 := m3.cellAt r5
    replace r6 := m3.cellAt r6
    replace fR := fun q => (m3.frozen (b := w.heap.size + 1) (o := q) (by omega) (.inr (Nat.zero_le _))).trans (fR q)
    replace M := M.trans m3
    cases q2 : isAsB n0 b
    · rw [q2] at he
      subst he
      have HR := Lib.hid (show icB n0 r b = false by unfold icB; rw [Q1.out, q2]; first | done | rfl | simp)
      go_wp2_with fail
      replace r0 := World.cell?_setCell_same _ _ (.int .i64 0) r0
      replace r1 := cell_set r1 ⟨w.heap.size + 1, 0, none⟩ (.int .i64 0) (.inr (by simp))
      replace r2 := cell_set r2 ⟨w.heap.size + 1, 0, none⟩ (.int .i64 0) (.inr (by simp))
      replace r3 := cell_set r3 ⟨w.heap.size + 1, 0, none⟩ (.int .i64 0) (.inr (by simp))
      replace r4 := cell_set r4 ⟨w.heap.size + 1, 0, none⟩ (.int .i64 0) (.inr (by simp))
      replace r5 := cell_set r5 ⟨w.heap.size + 1, 0, none⟩ (.int .i64 0) (.inr (by simp))
      replace r6 := cell_set r6 ⟨w.heap.size + 1, 0, none⟩ (.int .i64 0) (.inr (by simp))
      replace M := M.put ⟨w.heap.size + 1, 0, none⟩ (.int .i64 0) (show w.heap.size ≤ w.heap.size + 1 from by omega)
      replace r0 := cell_set r0 ⟨w.heap.size + 1, 1, none⟩ (.int .i64 0) (.inr (by simp))
      replace r1 := World.cell?_setCell_same _ _ (.int .i64 0) r1
      replace r2 := cell_set r2 ⟨w.heap.size + 1, 1, none⟩ (.int .i64 0) (.inr (by simp))
      replace r3 := cell_set r3 ⟨w.heap.size + 1, 1, none⟩ (.int .i64 0) (.inr (by simp))
      replace r4 := cell_set r4 ⟨w.heap.size + 1, 1, none⟩ (.int .i64 0) (.inr (by simp))
      replace r5 := cell_set r5 ⟨w.heap.size + 1, 1, none⟩ (.int .i64 0) (.inr (by simp))
      replace r6 := cell_set r6 ⟨w.heap.size + 1, 1, none⟩ (.int .i64 0) (.inr (by simp))
      replace M := M.put ⟨w.heap.size + 1, 1, none⟩ (.int .i64 0) (show w.heap.size ≤ w.heap.size + 1 from by omega)
      replace r0 := cell_set r0 ⟨w.heap.size + 1, 2, none⟩ (.int .i64 0) (.inr (by simp))
      replace r1 := cell_set r1 ⟨w.heap.size + 1, 2, none⟩ (.int .i64 0) (.inr (by simp))
      replace r2 := World.cell?_setCell_same _ _ (.int .i64 0) r2
      replace r3 := cell_set r3 ⟨w.heap.size + 1, 2, none⟩ (.int .i64 0) (.inr (by simp))
      replace r4 := cell_set r4 ⟨w.heap.size + 1, 2, none⟩ (.int .i64 0) (.inr (by simp))
      replace r5 := cell_set r5 ⟨w.heap.size + 1, 2, none⟩ (.int .i64 0) (.inr (by simp))
      replace r6 := cell_set r6 ⟨w.heap.size + 1, 2, none⟩ (.int .i64 0) (.inr (by simp))
      replace M := M.put ⟨w.heap.size + 1, 2, none⟩ (.int .i64 0) (show w.heap.size ≤ w.heap.size + 1 from by omega)
      replace r0 := cell_set r0 ⟨w.heap.size + 1, 3, none⟩ (.int .i64 0) (.inr (by simp))
      replace r1 := cell_set r1 ⟨w.heap.size + 1, 3, none⟩ (.int .i64 0) (.inr (by simp))
      replace r2 := cell_set r2 ⟨w.heap.size + 1, 3, none⟩ (.int .i64 0) (.inr (by simp))
      replace r3 := World.cell?_setCell_same _ _ (.int .i64 0) r3
      replace r4 := cell_set r4 ⟨w.heap.size + 1, 3, none⟩ (.int .i64 0) (.inr (by simp))
      replace r5 := cell_set r5 ⟨w.heap.size + 1, 3, none⟩ (.int .i64 0) (.inr (by simp))
      replace r6 := cell_set r6 ⟨w.heap.size + 1, 3, none⟩ (.int .i64 0) (.inr (by simp))
      replace M := M.put ⟨w.heap.size + 1, 3, none⟩ (.int .i64 0) (show w.heap.size ≤ w.heap.size + 1 from by omega)
      replace r0 := cell_set r0 ⟨w.heap.size + 1, 4, none⟩ (.int .i64 0) (.inr (by simp))
      replace r1 := cell_set r1 ⟨w.heap.size + 1, 4, none⟩ (.int .i64 0) (.inr (by simp))
      replace r2 := cell_set r2 ⟨w.heap.size + 1, 4, none⟩ (.int .i64 0) (.inr (by simp))
      replace r3 := cell_set r3 ⟨w.heap.size + 1, 4, none⟩ (.int .i64 0) (.inr (by simp))
      replace r4 := World.cell?_setCell_same _ _ (.int .i64 0) r4
      replace r5 := cell_set r5 ⟨w.heap.size + 1, 4, none⟩ (.int .i64 0) (.inr (by simp))
      replace r6 := cell_set r6 ⟨w.heap.size + 1, 4, none⟩ (.int .i64 0) (.inr (by simp))
      replace M := M.put ⟨w.heap.size + 1, 4, none⟩ (.int .i64 0) (show w.heap.size ≤ w.heap.size + 1 from by omega)
      replace r0 := cell_set r0 ⟨w.heap.size + 1, 5, none⟩ (.int .i64 0) (.inr (by simp))
      replace r1 := cell_set r1 ⟨w.heap.size + 1, 5, none⟩ (.int .i64 0) (.inr (by simp))
      replace r2 := cell_set r2 ⟨w.heap.size + 1, 5, none⟩ (.int .i64 0) (.inr (by simp))
      replace r3 := cell_set r3 ⟨w.heap.size + 1, 5, none⟩ (.int .i64 0) (.inr (by simp))
      replace r4 := cell_set r4 ⟨w.heap.size + 1, 5, none⟩ (.int .i64 0) (.inr (by simp))
      replace r5 := World.cell?_setCell_same _ _ (.int .i64 0) r5
      replace r6 := cell_set r6 ⟨w.heap.size + 1, 5, none⟩ (.int .i64 0) (.inr (by simp))
      replace M := M.put ⟨w.heap.size + 1, 5, none⟩ (.int .i64 0) (show w.heap.size ≤ w.heap.size + 1 from by omega)
      replace r0 := cell_set r0 ⟨w.heap.size + 1, 6, none⟩ (.int .i64 0) (.inr (by simp))
      replace r1 := cell_set r1 ⟨w.heap.size + 1, 6, none⟩ (.int .i64 0) (.inr (by simp))
      replace r2 := cell_set r2 ⟨w.heap.size + 1, 6, none⟩ (.int .i64 0) (.inr (by simp))
      replace r3 := cell_set r3 ⟨w.heap.size + 1, 6, none⟩ (.int .i64 0) (.inr (by simp))
      replace r4 := cell_set r4 ⟨w.heap.size + 1, 6, none⟩ (.int .i64 0) (.inr (by simp))
      replace r5 := cell_set r5 ⟨w.heap.size + 1, 6, none⟩ (.int .i64 0) (.inr (by simp))
      replace r6 := World.cell?_setCell_same _ _ (.int .i64 0) r6
      replace M := M.put ⟨w.heap.size + 1, 6, none⟩ (.int .i64 0) (show w.heap.size ≤ w.heap.size + 1 from by omega)
      generalize (((((((w3.setCell ⟨w.heap.size + 1, 0, none⟩ (.int .i64 0)).setCell ⟨w.heap.size + 1, 1, none⟩ (.int .i64 0)).setCell ⟨w.heap.size + 1, 2, none⟩ (.int .i64 0)).setCell ⟨w.heap.size + 1, 3, none⟩ (.int .i64 0)).setCell ⟨w.heap.size + 1, 4, none⟩ (.int .i64 0)).setCell ⟨w.heap.size + 1, 5, none⟩ (.int .i64 0)).setCell ⟨w.heap.size + 1, 6, none⟩ (.int .i64 0)) = WF at *
      refine bodyPost_ret (v := .agg #[.int .i64 0, .int .i64 0, .int .i64 0, .int .i64 0, .int .i64 0, .int .i64 0, .int .i64 0]) (by simp [results, Try.results12, go_sem, r0, r1, r2, r3, r4, r5, r6]) rfl ⟨?_, M⟩
      simp [icR, HR.out]
    · have HB := Lib.hid (show icB n0 r b = true by unfold icB; rw [q1, q2]; rfl)
      rw [q2] at he
      subst he
      obtain ⟨q, rfl, hq⟩ := isAs_nat q1
      clear q1 q2 Q1
      obtain ⟨bA, oA, x, rfl, hbA, hx, d0, d1, d2⟩ := HasAS.at _ _ _ _ _ _ (hA.mk M hB (.inr (Nat.le_refl _))) hq
      have hbr := World.block_lt_of_cell? _ _ d2
      simp only at hbr
      have i1 : (0 : Int) ≤ (q : Int) := by omega
      have i2 : (q : Int) < (n0 : Int) := by omega
      have HK := as_fits hA.1 hq hz hx.out
      obtain ⟨K, hK⟩ : ∃ K, Hid (K = icK zA (q : Int)) := ⟨_, Lib.hid rfl⟩
      have HKF := Lib.hid (icK_fits zA (q : Int))
      rw [← hK.out] at HKF
      have cN : (w3.alloc (.cells #[.int .i64 x.key] 3)).cell? ⟨w3.heap.size, 0, none⟩ = some (.int .i64 x.key) := by simp [go_sem]
      have hD := specDigest (some ⟨w3.heap.size, 0, none⟩) 1 1 _ [x.key] (w3.alloc (.cells #[.int .i64 x.key] 3)) (has_one cN (World.block_lt_of_cell? _ _ cN)) (by intro z hz2; simp only [List.mem_cons, List.not_mem_nil, or_false] at hz2; subst hz2; exact HK) (by omega)
      rw [show digN [x.key] 1 = K by rw [hK.out]; unfold icK; rw [Int.toNat_natCast, ← hx.out]] at hD
      have mA := Mk.alloc w3 (.cells #[.int .i64 x.key] 3)
      go_wp2_with fail
      refine hD.mono ?_
      rintro e w4 ⟨rfl, rfl⟩
      replace k0 := mA.cellAt k0
      replace k1 := mA.cellAt k1
      replace r0 := mA.cellAt r0
      replace r1 := mA.cellAt r1
      replace r2 := mA.cellAt r2
      replace r3 := mA.cellAt r3
      replace r4 := mA.cellAt r4
      replace r5 := mA.cellAt r5
      replace r6 := mA.cellAt r6
      have hs3R : w.heap.size + 1 < w3.heap.size := by omega
      replace fR := fun q2 => (mA.frozen (b := w.heap.size + 1) (o := q2) hs3R (.inr (Nat.zero_le _))).trans (fR q2)
      replace M := M.trans mA
      have hsz4 : w.heap.size + 1 < (w3.alloc (.cells #[.int .i64 x.key] 3)).heap.size := by rw [World.size_alloc]; omega
      generalize (w3.alloc (.cells #[.int .i64 x.key] 3)) = w4 at *
      have MX := Mk.alloc w4 (Obj.cells #[Value.int .i64 (q : Int), Value.int .i64 K, Value.int .i64 ve, Value.int .i64 fr, Value.int .i64 un, Value.int .i64 0, Value.int .i64 0] 39)
      have cv0 : (w4.alloc (Obj.cells #[Value.int .i64 (q : Int), Value.int .i64 K, Value.int .i64 ve, Value.int .i64 fr, Value.int .i64 un, Value.int .i64 0, Value.int .i64 0] 39)).cell? ⟨w4.heap.size, 0, none⟩ = some (.int .i64 (q : Int)) := by simp [go_sem]
      have cv1 : (w4.alloc (Obj.cells #[Value.int .i64 (q : Int), Value.int .i64 K, Value.int .i64 ve, Value.int .i64 fr, Value.int .i64 un, Value.int .i64 0, Value.int .i64 0] 39)).cell? ⟨w4.heap.size, 1, none⟩ = some (.int .i64 K) := by simp [go_sem]
      have cv2 : (w4.alloc (Obj.cells #[Value.int .i64 (q : Int), Value.int .i64 K, Value.int .i64 ve, Value.int .i64 fr, Value.int .i64 un, Value.int .i64 0, Value.int .i64 0] 39)).cell? ⟨w4.heap.size, 2, none⟩ = some (.int .i64 ve) := by simp [go_sem]
      have cv3 : (w4.alloc (Obj.cells #[Value.int .i64 (q : Int), Value.int .i64 K, Value.int .i64 ve, Value.int .i64 fr, Value.int .i64 un, Value.int .i64 0, Value.int .i64 0] 39)).cell? ⟨w4.heap.size, 3, none⟩ = some (.int .i64 fr) := by simp [go_sem]
      have cv4 : (w4.alloc (Obj.cells #[Value.int .i64 (q : Int), Value.int .i64 K, Value.int .i64 ve, Value.int .i64 fr, Value.int .i64 un, Value.int .i64 0, Value.int .i64 0] 39)).cell? ⟨w4.heap.size, 4, none⟩ = some (.int .i64 un) := by simp [go_sem]
      have cv5 : (w4.alloc (Obj.cells #[Value.int .i64 (q : Int), Value.int .i64 K, Value.int .i64 ve, Value.int .i64 fr, Value.int .i64 un, Value.int .i64 0, Value.int .i64 0] 39)).cell? ⟨w4.heap.size, 5, none⟩ = some (.int .i64 0) := by simp [go_sem]
      have cv6 : (w4.alloc (Obj.cells #[Value.int .i64 (q : Int), Value.int .i64 K, Value.int .i64 ve, Value.int .i64 fr, Value.int .i64 un, Value.int .i64 0, Value.int .i64 0] 39)).cell? ⟨w4.heap.size, 6, none⟩ = some (.int .i64 0) := by simp [go_sem]
      have fC : ∀ q2, (w4.alloc (Obj.cells #[Value.int .i64 (q : Int), Value.int .i64 K, Value.int .i64 ve, Value.int .i64 fr, Value.int .i64 un, Value.int .i64 0, Value.int .i64 0] 39)).frozen? ⟨w4.heap.size, q2, none⟩ = false := fun q2 => by simp [go_sem]
      replace k0 := MX.cellAt k0
      replace k1 := MX.cellAt k1
      replace r0 := MX.cellAt r0
      replace r1 := MX.cellAt r1
      replace r2 := MX.cellAt r2
      replace r3 := MX.cellAt r3
      replace r4 := MX.cellAt r4
      replace r5 := MX.cellAt r5
      replace r6 := MX.cellAt r6
      replace fR := fun q2 => (MX.frozen (b := w.heap.size + 1) (o := q2) hsz4 (.inr (Nat.zero_le _))).trans (fR q2)
      replace M := M.trans MX
      have hsC : w4.heap.size < (w4.alloc (Obj.cells #[Value.int .i64 (q : Int), Value.int .i64 K, Value.int .i64 ve, Value.int .i64 fr, Value.int .i64 un, Value.int .i64 0, Value.int .i64 0] 39)).heap.size := by rw [World.size_alloc]; omega
      obtain ⟨sg, hsg⟩ : ∃ sg, Hid (sg = sgV zA n0 b [(q : Int), K, ve, fr, un]) := ⟨_, Lib.hid rfl⟩
      have HM := Lib.hid M
      have HL := Lib.hid (show ∀ z ∈ [(q : Int), K, ve, fr, un], (Lit.int .i64 z).wf = true from by intro z hz2; simp only [List.mem_cons, List.not_mem_nil, or_false] at hz2; rcases hz2 with rfl | rfl | rfl | rfl | rfl <;> first | exact hr | exact hve | exact hfr | exact hun | exact HKF.out)
      have HZ := Lib.hid hz
      clear hz d0 d1 d2 HK
      go_wp2_with fail
      generalize (w4.alloc (Obj.cells #[Value.int .i64 (q : Int), Value.int .i64 K, Value.int .i64 ve, Value.int .i64 fr, Value.int .i64 un, Value.int .i64 0, Value.int .i64 0] 39)) = w5 at *
      refine wp_region_fk (fun w' => Mk0 w5 w' ∧ w'.cell? ⟨w.heap.size, 0, none⟩ = some (.slice (some ⟨bA, oA, none⟩) n0 c0) ∧ w'.cell? ⟨w.heap.size, 1, none⟩ = some (.slice a1 n1 c1) ∧ w'.cell? ⟨w4.heap.size, 0, none⟩ = some (.int .i64 (q : Int)) ∧ w'.cell? ⟨w4.heap.size, 1, none⟩ = some (.int .i64 K) ∧ w'.cell? ⟨w4.heap.size, 2, none⟩ = some (.int .i64 ve) ∧ w'.cell? ⟨w4.heap.size, 3, none⟩ = some (.int .i64 fr) ∧ w'.cell? ⟨w4.heap.size, 4, none⟩ = some (.int .i64 un) ∧ w'.cell? ⟨w4.heap.size, 5, none⟩ = some (.int .i64 0) ∧ w'.cell? ⟨w4.heap.size, 6, none⟩ = some (.int .i64 0)) (fkF [fun v w => v = .agg #[.slice (some ⟨bA, oA, none⟩) n0 c0, .slice a1 n1 c1], fun v w => v = .int .i64 b, fun v w => v = .agg #[.int .i64 (q : Int), .int .i64 K, .int .i64 ve, .int .i64 fr, .int .i64 un, .int .i64 0, .int .i64 0], fun v w => ∃ A C, v = .slice A 5 C ∧ (A = none → C = 0) ∧ Has .i64 w w.heap.size A 5 [(q : Int), K, ve, fr, un], fun v w => v = .agg #[.int .i64 sg.nd, .int .i64 sg.val], fun v w => v = .pointer (some ⟨w4.heap.size, 5, none⟩)]) 6 (by kernel_rfl) (by kernel_rfl) (by decide) (by kernel_rfl) (fkM_mono ⟨fun v w w' h m => h, fun v w w' h m => h, fun v w w' h m => h, fun v w w' h m => (by obtain ⟨A, C, h1, h2, h3⟩ := h; exact ⟨A, C, h1, h2, h3.next m.below0⟩), fun v w w' h m => h, fun v w w' h m => h, trivial⟩) (⟨Mk.drew1 _, k0, k1, cv0, cv1, cv2, cv3, cv4, cv5, cv6⟩) ?_
      change WkF _ _ _ _ _ 6 6 0 _
      refine WkF.value (m := 5) (k := 0) rfl rfl (of_decide_eq_true (by rfl)) rfl (fun w hS hF => ?_) (fun v0 => ?_)
      · obtain ⟨s0, s1, s2, s3, s4, s5, s6, s7, s8, s9⟩ := hS
        exact ⟨.agg #[.slice (some ⟨bA, oA, none⟩) n0 c0, .slice a1 n1 c1], w, (by go_simp; try with_reducible rfl), ⟨s0, s1, s2, s3, s4, s5, s6, s7, s8, s9⟩, Mk.refl _ _ _, rfl⟩
      try simp only [Act.put, List.getElem_toArray, List.getElem_cons_zero, List.setIfInBounds_toArray, List.set_cons_zero, List.set_cons_succ]
      refine WkF.value (m := 4) (k := 1) rfl rfl (of_decide_eq_true (by rfl)) rfl (fun w hS hF => ?_) (fun v1 => ?_)
      · obtain ⟨s0, s1, s2, s3, s4, s5, s6, s7, s8, s9⟩ := hS
        exact ⟨.int .i64 b, w, (by go_simp; try with_reducible rfl), ⟨s0, s1, s2, s3, s4, s5, s6, s7, s8, s9⟩, Mk.refl _ _ _, rfl⟩
      try simp only [Act.put, List.getElem_toArray, List.getElem_cons_succ, List.getElem_cons_zero, List.setIfInBounds_toArray, List.set_cons_zero, List.set_cons_succ]
      refine WkF.value (m := 3) (k := 2) rfl rfl (of_decide_eq_true (by rfl)) rfl (fun w hS hF => ?_) (fun v2 => ?_)
      · obtain ⟨s0, s1, s2, s3, s4, s5, s6, s7, s8, s9⟩ := hS
        exact ⟨.agg #[.int .i64 (q : Int), .int .i64 K, .int .i64 ve, .int .i64 fr, .int .i64 un, .int .i64 0, .int .i64 0], w, (by go_simp; try with_reducible rfl), ⟨s0, s1, s2, s3, s4, s5, s6, s7, s8, s9⟩, Mk.refl _ _ _, rfl⟩
      try simp only [Act.put, List.getElem_toArray, List.getElem_cons_succ, List.getElem_cons_zero, List.setIfInBounds_toArray, List.set_cons_zero, List.set_cons_succ]
      refine WkF.call (m := 2) (k := 3) rfl rfl (of_decide_eq_true (by rfl)) rfl (fun w hS hF => ?_) (fun v3 => ?_)
      · obtain ⟨s0, s1, s2, s3, s4, s5, s6, s7, s8, s9⟩ := hS
        have f2 : v2 = .agg #[.int .i64 (q : Int), .int .i64 K, .int .i64 ve, .int .i64 fr, .int .i64 un, .int .i64 0, .int .i64 0] := hF 2 (by rfl)
        obtain rfl := f2
        refine ⟨_, _, (by go_simp; first | done | exact ⟨rfl, rfl⟩ | with_reducible rfl), ?_⟩
        refine (specCData (q : Int) K ve fr un 0 0 w).mono ?_
        rintro e w' ⟨A, N, C, rfl, hc, hO, bm⟩
        have mm := Mk.of_below bm; exact ⟨_, rfl, ⟨s0.trans mm, mm.cellAt s1, mm.cellAt s2, mm.cellAt s3, mm.cellAt s4, mm.cellAt s5, mm.cellAt s6, mm.cellAt s7, mm.cellAt s8, mm.cellAt s9⟩, mm, (by obtain rfl : N = 5 := hO.1.symm; exact ⟨A, C, rfl, hc, hO.has⟩)⟩
      try simp only [Act.put, List.getElem_toArray, List.getElem_cons_succ, List.getElem_cons_zero, List.setIfInBounds_toArray, List.set_cons_zero, List.set_cons_succ]
      refine WkF.call (m := 1) (k := 4) rfl rfl (of_decide_eq_true (by rfl)) rfl (fun w hS hF => ?_) (fun v4 => ?_)
      · obtain ⟨s0, s1, s2, s3, s4, s5, s6, s7, s8, s9⟩ := hS
        have f0 : v0 = .agg #[.slice (some ⟨bA, oA, none⟩) n0 c0, .slice a1 n1 c1] := hF 0 (by rfl)
        obtain rfl := f0
        have f1 : v1 = .int .i64 b := hF 1 (by rfl)
        obtain rfl := f1
        have f3 : ∃ A C, v3 = .slice A 5 C ∧ (A = none → C = 0) ∧ Has .i64 w w.heap.size A 5 [(q : Int), K, ve, fr, un] := hF 3 (by rfl)
        obtain ⟨A, C, rfl, hc, hL⟩ := f3
        refine ⟨_, _, (by go_simp; first | done | exact ⟨rfl, rfl⟩ | with_reducible rfl), ?_⟩
        refine (specSignAs (some ⟨bA, oA, none⟩) a1 n0 c0 n1 c1 B zA b A 5 C _ [(q : Int), K, ve, fr, un] sg hsg.out w (hA.mk (HM.out.trans s0) hB (.inr (Nat.le_refl _))) (Nat.le_trans hB (HM.out.trans s0).size) hn0 HZ.out hL (Nat.le_refl _) (by omega) hc HL.out).mono ?_
        rintro e w' ⟨rfl, mm⟩
        exact ⟨_, rfl, ⟨s0.trans mm, mm.cellAt s1, mm.cellAt s2, mm.cellAt s3, mm.cellAt s4, mm.cellAt s5, mm.cellAt s6, mm.cellAt s7, mm.cellAt s8, mm.cellAt s9⟩, mm, rfl⟩
      try simp only [Act.put, List.getElem_toArray, List.getElem_cons_succ, List.getElem_cons_zero, List.setIfInBounds_toArray, List.set_cons_zero, List.set_cons_succ]
      refine WkF.value (m := 0) (k := 5) rfl rfl (of_decide_eq_true (by rfl)) rfl (fun w hS hF => ?_) (fun v5 => ?_)
      · obtain ⟨s0, s1, s2, s3, s4, s5, s6, s7, s8, s9⟩ := hS
        exact ⟨.pointer (some ⟨w4.heap.size, 5, none⟩), w, (by go_simp; try with_reducible rfl), ⟨s0, s1, s2, s3, s4, s5, s6, s7, s8, s9⟩, Mk.refl _ _ _, rfl⟩
      try simp only [Act.put, List.getElem_toArray, List.getElem_cons_succ, List.getElem_cons_zero, List.setIfInBounds_toArray, List.set_cons_zero, List.set_cons_succ]
      refine WkF.done fun wE hE hF => ?_
      clear k0 k1 cv0 cv1 cv2 cv3 cv4 cv5 cv6
      obtain ⟨mE, k0, k1, cv0, cv1, cv2, cv3, cv4, cv5, cv6⟩ := hE
      change wpAny _ _ _ _ 1 _ _ _
      have f4 : v4 = .agg #[.int .i64 sg.nd, .int .i64 sg.val] := hF 4 (by decide)
      obtain rfl := f4
      have f5 : v5 = .pointer (some ⟨w4.heap.size, 5, none⟩) := hF 5 (by decide)
      obtain rfl := f5
      have fCE : ∀ q2, wE.frozen? ⟨w4.heap.size, q2, none⟩ = false := fun q2 => (mE.frozen (b := w4.heap.size) (o := q2) hsC (.inr (Nat.zero_le _))).trans (fC q2)
      replace r0 := mE.cellAt r0
      replace r1 := mE.cellAt r1
      replace r2 := mE.cellAt r2
      replace r3 := mE.cellAt r3
      replace r4 := mE.cellAt r4
      replace r5 := mE.cellAt r5
      replace r6 := mE.cellAt r6
      replace fR := fun q2 => (mE.frozen (b := w.heap.size + 1) (o := q2) (by omega) (.inr (Nat.zero_le _))).trans (fR q2)
      have ME := HM.out.trans mE
      refine wpAny_ready (rs := [6]) (by kernel_rfl) (by simp) ?_
      refine (AllReady.cons rfl (fun K hK => ?_) AllReady.nil)
      go_simp
      refine hK _ _ ?_
      clear hK K
      try simp only [Act.put, List.getElem_toArray, List.getElem_cons_succ, List.getElem_cons_zero, List.setIfInBounds_toArray, List.set_cons_zero, List.set_cons_succ]
      refine wpAny_done (by kernel_rfl) ?_ _
      refine ‹∀ (a : Act) (w : World), _ → _› _ _ ?_
      replace cv0 := cell_set cv0 ⟨w4.heap.size, 5, none⟩ (.int .i64 sg.nd) (.inr (by simp))
      replace cv1 := cell_set cv1 ⟨w4.heap.size, 5, none⟩ (.int .i64 sg.nd) (.inr (by simp))
      replace cv2 := cell_set cv2 ⟨w4.heap.size, 5, none⟩ (.int .i64 sg.nd) (.inr (by simp))
      replace cv3 := cell_set cv3 ⟨w4.heap.size, 5, none⟩ (.int .i64 sg.nd) (.inr (by simp))
      replace cv4 := cell_set cv4 ⟨w4.heap.size, 5, none⟩ (.int .i64 sg.nd) (.inr (by simp))
      replace cv5 := World.cell?_setCell_same _ _ (.int .i64 sg.nd) cv5
      replace cv6 := cell_set cv6 ⟨w4.heap.size, 5, none⟩ (.int .i64 sg.nd) (.inr (by simp))
      replace r0 := cell_set r0 ⟨w4.heap.size, 5, none⟩ (.int .i64 sg.nd) (.inl (show w4.heap.size ≠ w.heap.size + 1 from by omega))
      replace r1 := cell_set r1 ⟨w4.heap.size, 5, none⟩ (.int .i64 sg.nd) (.inl (show w4.heap.size ≠ w.heap.size + 1 from by omega))
      replace r2 := cell_set r2 ⟨w4.heap.size, 5, none⟩ (.int .i64 sg.nd) (.inl (show w4.heap.size ≠ w.heap.size + 1 from by omega))
      replace r3 := cell_set r3 ⟨w4.heap.size, 5, none⟩ (.int .i64 sg.nd) (.inl (show w4.heap.size ≠ w.heap.size + 1 from by omega))
      replace r4 := cell_set r4 ⟨w4.heap.size, 5, none⟩ (.int .i64 sg.nd) (.inl (show w4.heap.size ≠ w.heap.size + 1 from by omega))
      replace r5 := cell_set r5 ⟨w4.heap.size, 5, none⟩ (.int .i64 sg.nd) (.inl (show w4.heap.size ≠ w.heap.size + 1 from by omega))
      replace r6 := cell_set r6 ⟨w4.heap.size, 5, none⟩ (.int .i64 sg.nd) (.inl (show w4.heap.size ≠ w.heap.size + 1 from by omega))
      replace fR := fun q2 => frozen_set (fR q2) ⟨w4.heap.size, 5, none⟩ (.int .i64 sg.nd)
      replace ME := ME.put ⟨w4.heap.size, 5, none⟩ (.int .i64 sg.nd) (show w.heap.size ≤ w4.heap.size from by omega)
      replace cv0 := cell_set cv0 ⟨w4.heap.size, 6, none⟩ (.int .i64 sg.val) (.inr (by simp))
      replace cv1 := cell_set cv1 ⟨w4.heap.size, 6, none⟩ (.int .i64 sg.val) (.inr (by simp))
      replace cv2 := cell_set cv2 ⟨w4.heap.size, 6, none⟩ (.int .i64 sg.val) (.inr (by simp))
      replace cv3 := cell_set cv3 ⟨w4.heap.size, 6, none⟩ (.int .i64 sg.val) (.inr (by simp))
      replace cv4 := cell_set cv4 ⟨w4.heap.size, 6, none⟩ (.int .i64 sg.val) (.inr (by simp))
      replace cv5 := cell_set cv5 ⟨w4.heap.size, 6, none⟩ (.int .i64 sg.val) (.inr (by simp))
      replace cv6 := World.cell?_setCell_same _ _ (.int .i64 sg.val) cv6
      replace r0 := cell_set r0 ⟨w4.heap.size, 6, none⟩ (.int .i64 sg.val) (.inl (show w4.heap.size ≠ w.heap.size + 1 from by omega))
      replace r1 := cell_set r1 ⟨w4.heap.size, 6, none⟩ (.int .i64 sg.val) (.inl (show w4.heap.size ≠ w.heap.size + 1 from by omega))
      replace r2 := cell_set r2 ⟨w4.heap.size, 6, none⟩ (.int .i64 sg.val) (.inl (show w4.heap.size ≠ w.heap.size + 1 from by omega))
      replace r3 := cell_set r3 ⟨w4.heap.size, 6, none⟩ (.int .i64 sg.val) (.inl (show w4.heap.size ≠ w.heap.size + 1 from by omega))
      replace r4 := cell_set r4 ⟨w4.heap.size, 6, none⟩ (.int .i64 sg.val) (.inl (show w4.heap.size ≠ w.heap.size + 1 from by omega))
      replace r5 := cell_set r5 ⟨w4.heap.size, 6, none⟩ (.int .i64 sg.val) (.inl (show w4.heap.size ≠ w.heap.size + 1 from by omega))
      replace r6 := cell_set r6 ⟨w4.heap.size, 6, none⟩ (.int .i64 sg.val) (.inl (show w4.heap.size ≠ w.heap.size + 1 from by omega))
      replace fR := fun q2 => frozen_set (fR q2) ⟨w4.heap.size, 6, none⟩ (.int .i64 sg.val)
      replace ME := ME.put ⟨w4.heap.size, 6, none⟩ (.int .i64 sg.val) (show w.heap.size ≤ w4.heap.size from by omega)
      generalize ((wE.setCell ⟨w4.heap.size, 5, none⟩ (.int .i64 sg.nd)).setCell ⟨w4.heap.size, 6, none⟩ (.int .i64 sg.val)) = w9 at *
      go_wp2_with fail
      replace r0 := World.cell?_setCell_same _ _ (.int .i64 (q : Int)) r0
      replace r1 := cell_set r1 ⟨w.heap.size + 1, 0, none⟩ (.int .i64 (q : Int)) (.inr (by simp))
      replace r2 := cell_set r2 ⟨w.heap.size + 1, 0, none⟩ (.int .i64 (q : Int)) (.inr (by simp))
      replace r3 := cell_set r3 ⟨w.heap.size + 1, 0, none⟩ (.int .i64 (q : Int)) (.inr (by simp))
      replace r4 := cell_set r4 ⟨w.heap.size + 1, 0, none⟩ (.int .i64 (q : Int)) (.inr (by simp))
      replace r5 := cell_set r5 ⟨w.heap.size + 1, 0, none⟩ (.int .i64 (q : Int)) (.inr (by simp))
      replace r6 := cell_set r6 ⟨w.heap.size + 1, 0, none⟩ (.int .i64 (q : Int)) (.inr (by simp))
      replace ME := ME.put ⟨w.heap.size + 1, 0, none⟩ (.int .i64 (q : Int)) (show w.heap.size ≤ w.heap.size + 1 from by omega)
      replace r0 := cell_set r0 ⟨w.heap.size + 1, 1, none⟩ (.int .i64 K) (.inr (by simp))
      replace r1 := World.cell?_setCell_same _ _ (.int .i64 K) r1
      replace r2 := cell_set r2 ⟨w.heap.size + 1, 1, none⟩ (.int .i64 K) (.inr (by simp))
      replace r3 := cell_set r3 ⟨w.heap.size + 1, 1, none⟩ (.int .i64 K) (.inr (by simp))
      replace r4 := cell_set r4 ⟨w.heap.size + 1, 1, none⟩ (.int .i64 K) (.inr (by simp))
      replace r5 := cell_set r5 ⟨w.heap.size + 1, 1, none⟩ (.int .i64 K) (.inr (by simp))
      replace r6 := cell_set r6 ⟨w.heap.size + 1, 1, none⟩ (.int .i64 K) (.inr (by simp))
      replace ME := ME.put ⟨w.heap.size + 1, 1, none⟩ (.int .i64 K) (show w.heap.size ≤ w.heap.size + 1 from by omega)
      replace r0 := cell_set r0 ⟨w.heap.size + 1, 2, none⟩ (.int .i64 ve) (.inr (by simp))
      replace r1 := cell_set r1 ⟨w.heap.size + 1, 2, none⟩ (.int .i64 ve) (.inr (by simp))
      replace r2 := World.cell?_setCell_same _ _ (.int .i64 ve) r2
      replace r3 := cell_set r3 ⟨w.heap.size + 1, 2, none⟩ (.int .i64 ve) (.inr (by simp))
      replace r4 := cell_set r4 ⟨w.heap.size + 1, 2, none⟩ (.int .i64 ve) (.inr (by simp))
      replace r5 := cell_set r5 ⟨w.heap.size + 1, 2, none⟩ (.int .i64 ve) (.inr (by simp))
      replace r6 := cell_set r6 ⟨w.heap.size + 1, 2, none⟩ (.int .i64 ve) (.inr (by simp))
      replace ME := ME.put ⟨w.heap.size + 1, 2, none⟩ (.int .i64 ve) (show w.heap.size ≤ w.heap.size + 1 from by omega)
      replace r0 := cell_set r0 ⟨w.heap.size + 1, 3, none⟩ (.int .i64 fr) (.inr (by simp))
      replace r1 := cell_set r1 ⟨w.heap.size + 1, 3, none⟩ (.int .i64 fr) (.inr (by simp))
      replace r2 := cell_set r2 ⟨w.heap.size + 1, 3, none⟩ (.int .i64 fr) (.inr (by simp))
      replace r3 := World.cell?_setCell_same _ _ (.int .i64 fr) r3
      replace r4 := cell_set r4 ⟨w.heap.size + 1, 3, none⟩ (.int .i64 fr) (.inr (by simp))
      replace r5 := cell_set r5 ⟨w.heap.size + 1, 3, none⟩ (.int .i64 fr) (.inr (by simp))
      replace r6 := cell_set r6 ⟨w.heap.size + 1, 3, none⟩ (.int .i64 fr) (.inr (by simp))
      replace ME := ME.put ⟨w.heap.size + 1, 3, none⟩ (.int .i64 fr) (show w.heap.size ≤ w.heap.size + 1 from by omega)
      replace r0 := cell_set r0 ⟨w.heap.size + 1, 4, none⟩ (.int .i64 un) (.inr (by simp))
      replace r1 := cell_set r1 ⟨w.heap.size + 1, 4, none⟩ (.int .i64 un) (.inr (by simp))
      replace r2 := cell_set r2 ⟨w.heap.size + 1, 4, none⟩ (.int .i64 un) (.inr (by simp))
      replace r3 := cell_set r3 ⟨w.heap.size + 1, 4, none⟩ (.int .i64 un) (.inr (by simp))
      replace r4 := World.cell?_setCell_same _ _ (.int .i64 un) r4
      replace r5 := cell_set r5 ⟨w.heap.size + 1, 4, none⟩ (.int .i64 un) (.inr (by simp))
      replace r6 := cell_set r6 ⟨w.heap.size + 1, 4, none⟩ (.int .i64 un) (.inr (by simp))
      replace ME := ME.put ⟨w.heap.size + 1, 4, none⟩ (.int .i64 un) (show w.heap.size ≤ w.heap.size + 1 from by omega)
      replace r0 := cell_set r0 ⟨w.heap.size + 1, 5, none⟩ (.int .i64 sg.nd) (.inr (by simp))
      replace r1 := cell_set r1 ⟨w.heap.size + 1, 5, none⟩ (.int .i64 sg.nd) (.inr (by simp))
      replace r2 := cell_set r2 ⟨w.heap.size + 1, 5, none⟩ (.int .i64 sg.nd) (.inr (by simp))
      replace r3 := cell_set r3 ⟨w.heap.size + 1, 5, none⟩ (.int .i64 sg.nd) (.inr (by simp))
      replace r4 := cell_set r4 ⟨w.heap.size + 1, 5, none⟩ (.int .i64 sg.nd) (.inr (by simp))
      replace r5 := World.cell?_setCell_same _ _ (.int .i64 sg.nd) r5
      replace r6 := cell_set r6 ⟨w.heap.size + 1, 5, none⟩ (.int .i64 sg.nd) (.inr (by simp))
      replace ME := ME.put ⟨w.heap.size + 1, 5, none⟩ (.int .i64 sg.nd) (show w.heap.size ≤ w.heap.size + 1 from by omega)
      replace r0 := cell_set r0 ⟨w.heap.size + 1, 6, none⟩ (.int .i64 sg.val) (.inr (by simp))
      replace r1 := cell_set r1 ⟨w.heap.size + 1, 6, none⟩ (.int .i64 sg.val) (.inr (by simp))
      replace r2 := cell_set r2 ⟨w.heap.size + 1, 6, none⟩ (.int .i64 sg.val) (.inr (by simp))
      replace r3 := cell_set r3 ⟨w.heap.size + 1, 6, none⟩ (.int .i64 sg.val) (.inr (by simp))
      replace r4 := cell_set r4 ⟨w.heap.size + 1, 6, none⟩ (.int .i64 sg.val) (.inr (by simp))
      replace r5 := cell_set r5 ⟨w.heap.size + 1, 6, none⟩ (.int .i64 sg.val) (.inr (by simp))
      replace r6 := World.cell?_setCell_same _ _ (.int .i64 sg.val) r6
      replace ME := ME.put ⟨w.heap.size + 1, 6, none⟩ (.int .i64 sg.val) (show w.heap.size ≤ w.heap.size + 1 from by omega)
      generalize (((((((w9.setCell ⟨w.heap.size + 1, 0, none⟩ (.int .i64 (q : Int))).setCell ⟨w.heap.size + 1, 1, none⟩ (.int .i64 K)).setCell ⟨w.heap.size + 1, 2, none⟩ (.int .i64 ve)).setCell ⟨w.heap.size + 1, 3, none⟩ (.int .i64 fr)).setCell ⟨w.heap.size + 1, 4, none⟩ (.int .i64 un)).setCell ⟨w.heap.size + 1, 5, none⟩ (.int .i64 sg.nd)).setCell ⟨w.heap.size + 1, 6, none⟩ (.int .i64 sg.val)) = WF at *
      refine bodyPost_ret (v := .agg #[.int .i64 (q : Int), .int .i64 K, .int .i64 ve, .int .i64 fr, .int .i64 un, .int .i64 sg.nd, .int .i64 sg.val]) (by simp [results, Try.results12, go_sem, r0, r1, r2, r3, r4, r5, r6]) rfl ⟨?_, ME⟩
      simp [icR, icV, HB.out, ← hK.out, ← hsg.out]

set_option maxRecDepth 100000 in
set_option maxHeartbeats 16000000 in
theorem implIssue (a0 a1 : Option Addr) (n0 c0 n1 c1 B : Nat) (zA : List TAS) (r b ve fr un : Int) (w : World) (hA : HasAS w B a0 n0 zA) (hB : B ≤ w.heap.size) (hn0 : n0 ≤ 1048576) (hz : ∀ y ∈ zA, TAS.fits y) (hr : (Lit.int .i64 r).wf = true) (hve : (Lit.int .i64 ve).wf = true) (hfr : (Lit.int .i64 fr).wf = true) (hun : (Lit.int .i64 un).wf = true) :
    Calls Try.prog 14 #[.agg #[.slice a0 n0 c0, .slice a1 n1 c1], .int .i64 r, .int .i64 b, .int .i64 ve, .int .i64 fr, .int .i64 un] w fun e w' => e = .returned (.agg #[.int .i64 (icR zA n0 r b ve fr un 0), .int .i64 (icR zA n0 r b ve fr un 1), .int .i64 (icR zA n0 r b ve fr un 2), .int .i64 (icR zA n0 r b ve fr un 3), .int .i64 (icR zA n0 r b ve fr un 4), .int .i64 (icR zA n0 r b ve fr un 5), .int .i64 (icR zA n0 r b ve fr un 6)]) ∧ Mk0 w w' := by
  have M := (Mk.alloc w (Obj.cells #[Value.slice a0 n0 c0, Value.slice a1 n1 c1] 44)).new (Obj.cells #[Value.int .i64 0, Value.int .i64 0, Value.int .i64 0, Value.int .i64 0, Value.int .i64 0, Value.int .i64 0, Value.int .i64 0] 39)
  have k0 : ((w.alloc (Obj.cells #[Value.slice a0 n0 c0, Value.slice a1 n1 c1] 44)).alloc (Obj.cells #[Value.int .i64 0, Value.int .i64 0, Value.int .i64 0, Value.int .i64 0, Value.int .i64 0, Value.int .i64 0, Value.int .i64 0] 39)).cell? ⟨w.heap.size, 0, none⟩ = some (.slice a0 n0 c0) := by simp [go_sem]
  have k1 : ((w.alloc (Obj.cells #[Value.slice a0 n0 c0, Value.slice a1 n1 c1] 44)).alloc (Obj.cells #[Value.int .i64 0, Value.int .i64 0, Value.int .i64 0, Value.int .i64 0, Value.int .i64 0, Value.int .i64 0, Value.int .i64 0] 39)).cell? ⟨w.heap.size, 1, none⟩ = some (.slice a1 n1 c1) := by simp [go_sem]
  have r0 : ((w.alloc (Obj.cells #[Value.slice a0 n0 c0, Value.slice a1 n1 c1] 44)).alloc (Obj.cells #[Value.int .i64 0, Value.int .i64 0, Value.int .i64 0, Value.int .i64 0, Value.int .i64 0, Value.int .i64 0, Value.int .i64 0] 39)).cell? ⟨w.heap.size + 1, 0, none⟩ = some (.int .i64 0) := by simp [go_sem]
  have r1 : ((w.alloc (Obj.cells #[Value.slice a0 n0 c0, Value.slice a1 n1 c1] 44)).alloc (Obj.cells #[Value.int .i64 0, Value.int .i64 0, Value.int .i64 0, Value.int .i64 0, Value.int .i64 0, Value.int .i64 0, Value.int .i64 0] 39)).cell? ⟨w.heap.size + 1, 1, none⟩ = some (.int .i64 0) := by simp [go_sem]
  have r2 : ((w.alloc (Obj.cells #[Value.slice a0 n0 c0, Value.slice a1 n1 c1] 44)).alloc (Obj.cells #[Value.int .i64 0, Value.int .i64 0, Value.int .i64 0, Value.int .i64 0, Value.int .i64 0, Value.int .i64 0, Value.int .i64 0] 39)).cell? ⟨w.heap.size + 1, 2, none⟩ = some (.int .i64 0) := by simp [go_sem]
  have r3 : ((w.alloc (Obj.cells #[Value.slice a0 n0 c0, Value.slice a1 n1 c1] 44)).alloc (Obj.cells #[Value.int .i64 0, Value.int .i64 0, Value.int .i64 0, Value.int .i64 0, Value.int .i64 0, Value.int .i64 0, Value.int .i64 0] 39)).cell? ⟨w.heap.size + 1, 3, none⟩ = some (.int .i64 0) := by simp [go_sem]
  have r4 : ((w.alloc (Obj.cells #[Value.slice a0 n0 c0, Value.slice a1 n1 c1] 44)).alloc (Obj.cells #[Value.int .i64 0, Value.int .i64 0, Value.int .i64 0, Value.int .i64 0, Value.int .i64 0, Value.int .i64 0, Value.int .i64 0] 39)).cell? ⟨w.heap.size + 1, 4, none⟩ = some (.int .i64 0) := by simp [go_sem]
  have r5 : ((w.alloc (Obj.cells #[Value.slice a0 n0 c0, Value.slice a1 n1 c1] 44)).alloc (Obj.cells #[Value.int .i64 0, Value.int .i64 0, Value.int .i64 0, Value.int .i64 0, Value.int .i64 0, Value.int .i64 0, Value.int .i64 0] 39)).cell? ⟨w.heap.size + 1, 5, none⟩ = some (.int .i64 0) := by simp [go_sem]
  have r6 : ((w.alloc (Obj.cells #[Value.slice a0 n0 c0, Value.slice a1 n1 c1] 44)).alloc (Obj.cells #[Value.int .i64 0, Value.int .i64 0, Value.int .i64 0, Value.int .i64 0, Value.int .i64 0, Value.int .i64 0, Value.int .i64 0] 39)).cell? ⟨w.heap.size + 1, 6, none⟩ = some (.int .i64 0) := by simp [go_sem]
  have fR : ∀ q, ((w.alloc (Obj.cells #[Value.slice a0 n0 c0, Value.slice a1 n1 c1] 44)).alloc (Obj.cells #[Value.int .i64 0, Value.int .i64 0, Value.int .i64 0, Value.int .i64 0, Value.int .i64 0, Value.int .i64 0, Value.int .i64 0] 39)).frozen? ⟨w.heap.size + 1, q, none⟩ = false := fun q => by simp [go_sem]
  have hs2 : ((w.alloc (Obj.cells #[Value.slice a0 n0 c0, Value.slice a1 n1 c1] 44)).alloc (Obj.cells #[Value.int .i64 0, Value.int .i64 0, Value.int .i64 0, Value.int .i64 0, Value.int .i64 0, Value.int .i64 0, Value.int .i64 0] 39)).heap.size = w.heap.size + 1 + 1 := by simp only [World.size_alloc]
  go_enter Try.func14, Try.ntmps14
  go_wp2_with fail
  generalize ((w.alloc (Obj.cells #[Value.slice a0 n0 c0, Value.slice a1 n1 c1] 44)).alloc (Obj.cells #[Value.int .i64 0, Value.int .i64 0, Value.int .i64 0, Value.int .i64 0, Value.int .i64 0, Value.int .i64 0, Value.int .i64 0] 39)) = WW at *
  refine (implIsAS a0 a1 n0 c0 n1 c1 r _ hn0).mono ?_
  rintro e w2 ⟨he, m2⟩
  have zz2 := m2.size
  replace k0 := m2.cellAt k0
  replace k1 := m2.cellAt k1
  replace r0 := m2.cellAt r0
  replace r1 := m2.cellAt r1
  replace r2 := m2.cellAt r2
  replace r3 := m2.cellAt r3
  replace r4 := m2.cellAt r4
  replace r5 := m2.cellAt r5
  replace r6 := m2.cellAt r6
  replace fR := fun q => (m2.frozen (b := w.heap.size + 1) (o := q) (by omega) (.inr (Nat.zero_le _))).trans (fR q)
  replace M := M.trans m2
  cases q1 : isAsB n0 r
  · rw [q1] at he
    subst he
    have HR := Lib.hid (show icB n0 r b = false by unfold icB; rw [q1]; first | done | rfl | simp)
    go_wp2_with fail
    replace r0 := World.cell?_setCell_same _ _ (.int .i64 0) r0
    replace r1 := cell_set r1 ⟨w.heap.size + 1, 0, none⟩ (.int .i64 0) (.inr (by simp))
    replace r2 := cell_set r2 ⟨w.heap.size + 1, 0, none⟩ (.int .i64 0) (.inr (by simp))
    replace r3 := cell_set r3 ⟨w.heap.size + 1, 0, none⟩ (.int .i64 0) (.inr (by simp))
    replace r4 := cell_set r4 ⟨w.heap.size + 1, 0, none⟩ (.int .i64 0) (.inr (by simp))
    replace r5 := cell_set r5 ⟨w.heap.size + 1, 0, none⟩ (.int .i64 0) (.inr (by simp))
    replace r6 := cell_set r6 ⟨w.heap.size + 1, 0, none⟩ (.int .i64 0) (.inr (by simp))
    replace M := M.put ⟨w.heap.size + 1, 0, none⟩ (.int .i64 0) (show w.heap.size ≤ w.heap.size + 1 from by omega)
    replace r0 := cell_set r0 ⟨w.heap.size + 1, 1, none⟩ (.int .i64 0) (.inr (by simp))
    replace r1 := World.cell?_setCell_same _ _ (.int .i64 0) r1
    replace r2 := cell_set r2 ⟨w.heap.size + 1, 1, none⟩ (.int .i64 0) (.inr (by simp))
    replace r3 := cell_set r3 ⟨w.heap.size + 1, 1, none⟩ (.int .i64 0) (.inr (by simp))
    replace r4 := cell_set r4 ⟨w.heap.size + 1, 1, none⟩ (.int .i64 0) (.inr (by simp))
    replace r5 := cell_set r5 ⟨w.heap.size + 1, 1, none⟩ (.int .i64 0) (.inr (by simp))
    replace r6 := cell_set r6 ⟨w.heap.size + 1, 1, none⟩ (.int .i64 0) (.inr (by simp))
    replace M := M.put ⟨w.heap.size + 1, 1, none⟩ (.int .i64 0) (show w.heap.size ≤ w.heap.size + 1 from by omega)
    replace r0 := cell_set r0 ⟨w.heap.size + 1, 2, none⟩ (.int .i64 0) (.inr (by simp))
    replace r1 := cell_set r1 ⟨w.heap.size + 1, 2, none⟩ (.int .i64 0) (.inr (by simp))
    replace r2 := World.cell?_setCell_same _ _ (.int .i64 0) r2
    replace r3 := cell_set r3 ⟨w.heap.size + 1, 2, none⟩ (.int .i64 0) (.inr (by simp))
    replace r4 := cell_set r4 ⟨w.heap.size + 1, 2, none⟩ (.int .i64 0) (.inr (by simp))
    replace r5 := cell_set r5 ⟨w.heap.size + 1, 2, none⟩ (.int .i64 0) (.inr (by simp))
    replace r6 := cell_set r6 ⟨w.heap.size + 1, 2, none⟩ (.int .i64 0) (.inr (by simp))
    replace M := M.put ⟨w.heap.size + 1, 2, none⟩ (.int .i64 0) (show w.heap.size ≤ w.heap.size + 1 from by omega)
    replace r0 := cell_set r0 ⟨w.heap.size + 1, 3, none⟩ (.int .i64 0) (.inr (by simp))
    replace r1 := cell_set r1 ⟨w.heap.size + 1, 3, none⟩ (.int .i64 0) (.inr (by simp))
    replace r2 := cell_set r2 ⟨w.heap.size + 1, 3, none⟩ (.int .i64 0) (.inr (by simp))
    replace r3 := World.cell?_setCell_same _ _ (.int .i64 0) r3
    replace r4 := cell_set r4 ⟨w.heap.size + 1, 3, none⟩ (.int .i64 0) (.inr (by simp))
    replace r5 := cell_set r5 ⟨w.heap.size + 1, 3, none⟩ (.int .i64 0) (.inr (by simp))
    replace r6 := cell_set r6 ⟨w.heap.size + 1, 3, none⟩ (.int .i64 0) (.inr (by simp))
    replace M := M.put ⟨w.heap.size + 1, 3, none⟩ (.int .i64 0) (show w.heap.size ≤ w.heap.size + 1 from by omega)
    replace r0 := cell_set r0 ⟨w.heap.size + 1, 4, none⟩ (.int .i64 0) (.inr (by simp))
    replace r1 := cell_set r1 ⟨w.heap.size + 1, 4, none⟩ (.int .i64 0) (.inr (by simp))
    replace r2 := cell_set r2 ⟨w.heap.size + 1, 4, none⟩ (.int .i64 0) (.inr (by simp))
    replace r3 := cell_set r3 ⟨w.heap.size + 1, 4, none⟩ (.int .i64 0) (.inr (by simp))
    replace r4 := World.cell?_setCell_same _ _ (.int .i64 0) r4
    replace r5 := cell_set r5 ⟨w.heap.size + 1, 4, none⟩ (.int .i64 0) (.inr (by simp))
    replace r6 := cell_set r6 ⟨w.heap.size + 1, 4, none⟩ (.int .i64 0) (.inr (by simp))
    replace M := M.put ⟨w.heap.size + 1, 4, none⟩ (.int .i64 0) (show w.heap.size ≤ w.heap.size + 1 from by omega)
    replace r0 := cell_set r0 ⟨w.heap.size + 1, 5, none⟩ (.int .i64 0) (.inr (by simp))
    replace r1 := cell_set r1 ⟨w.heap.size + 1, 5, none⟩ (.int .i64 0) (.inr (by simp))
    replace r2 := cell_set r2 ⟨w.heap.size + 1, 5, none⟩ (.int .i64 0) (.inr (by simp))
    replace r3 := cell_set r3 ⟨w.heap.size + 1, 5, none⟩ (.int .i64 0) (.inr (by simp))
    replace r4 := cell_set r4 ⟨w.heap.size + 1, 5, none⟩ (.int .i64 0) (.inr (by simp))
    replace r5 := World.cell?_setCell_same _ _ (.int .i64 0) r5
    replace r6 := cell_set r6 ⟨w.heap.size + 1, 5, none⟩ (.int .i64 0) (.inr (by simp))
    replace M := M.put ⟨w.heap.size + 1, 5, none⟩ (.int .i64 0) (show w.heap.size ≤ w.heap.size + 1 from by omega)
    replace r0 := cell_set r0 ⟨w.heap.size + 1, 6, none⟩ (.int .i64 0) (.inr (by simp))
    replace r1 := cell_set r1 ⟨w.heap.size + 1, 6, none⟩ (.int .i64 0) (.inr (by simp))
    replace r2 := cell_set r2 ⟨w.heap.size + 1, 6, none⟩ (.int .i64 0) (.inr (by simp))
    replace r3 := cell_set r3 ⟨w.heap.size + 1, 6, none⟩ (.int .i64 0) (.inr (by simp))
    replace r4 := cell_set r4 ⟨w.heap.size + 1, 6, none⟩ (.int .i64 0) (.inr (by simp))
    replace r5 := cell_set r5 ⟨w.heap.size + 1, 6, none⟩ (.int .i64 0) (.inr (by simp))
    replace r6 := World.cell?_setCell_same _ _ (.int .i64 0) r6
    replace M := M.put ⟨w.heap.size + 1, 6, none⟩ (.int .i64 0) (show w.heap.size ≤ w.heap.size + 1 from by omega)
    generalize (((((((w2.setCell ⟨w.heap.size + 1, 0, none⟩ (.int .i64 0)).setCell ⟨w.heap.size + 1, 1, none⟩ (.int .i64 0)).setCell ⟨w.heap.size + 1, 2, none⟩ (.int .i64 0)).setCell ⟨w.heap.size + 1, 3, none⟩ (.int .i64 0)).setCell ⟨w.heap.size + 1, 4, none⟩ (.int .i64 0)).setCell ⟨w.heap.size + 1, 5, none⟩ (.int .i64 0)).setCell ⟨w.heap.size + 1, 6, none⟩ (.int .i64 0)) = WF at *
    refine bodyPost_ret (v := .agg #[.int .i64 0, .int .i64 0, .int .i64 0, .int .i64 0, .int .i64 0, .int .i64 0, .int .i64 0]) (by simp [results, Try.results14, go_sem, r0, r1, r2, r3, r4, r5, r6]) rfl ⟨?_, M⟩
    simp [icR, HR.out]
  · have Q1 := Lib.hid q1
    rw [q1] at he
    subst he
    go_wp2_with fail
    refine (implIsAS a0 a1 n0 c0 n1 c1 b _ hn0).mono ?_
    rintro e w3 ⟨he, m3⟩
    have zz3 := m3.size
    replace k0 := m3.cellAt k0
    replace k1 := m3.cellAt k1
    replace r0 := m3.cellAt r0
    replace r1 := m3.cellAt r1
    replace r2 := m3.cellAt r2
    replace r3 := m3.cellAt r3
    replace r4 := m3.cellAt r4
    replace r5 := m3.cellAt r5
    replace r6 := m3.cellAt r6
    replace fR := fun q => (m3.frozen (b := w.heap.size + 1) (o := q) (by omega) (.inr (Nat.zero_le _))).trans (fR q)
    replace M := M.trans m3
    cases q2 : isAsB n0 b
    · rw [q2] at he
      subst he
      have HR := Lib.hid (show icB n0 r b = false by unfold icB; rw [Q1.out, q2]; first | done | rfl | simp)
      go_wp2_with fail
      replace r0 := World.cell?_setCell_same _ _ (.int .i64 0) r0
      replace r1 := cell_set r1 ⟨w.heap.size + 1, 0, none⟩ (.int .i64 0) (.inr (by simp))
      replace r2 := cell_set r2 ⟨w.heap.size + 1, 0, none⟩ (.int .i64 0) (.inr (by simp))
      replace r3 := cell_set r3 ⟨w.heap.size + 1, 0, none⟩ (.int .i64 0) (.inr (by simp))
      replace r4 := cell_set r4 ⟨w.heap.size + 1, 0, none⟩ (.int .i64 0) (.inr (by simp))
      replace r5 := cell_set r5 ⟨w.heap.size + 1, 0, none⟩ (.int .i64 0) (.inr (by simp))
      replace r6 := cell_set r6 ⟨w.heap.size + 1, 0, none⟩ (.int .i64 0) (.inr (by simp))
      replace M := M.put ⟨w.heap.size + 1, 0, none⟩ (.int .i64 0) (show w.heap.size ≤ w.heap.size + 1 from by omega)
      replace r0 := cell_set r0 ⟨w.heap.size + 1, 1, none⟩ (.int .i64 0) (.inr (by simp))
      replace r1 := World.cell?_setCell_same _ _ (.int .i64 0) r1
      replace r2 := cell_set r2 ⟨w.heap.size + 1, 1, none⟩ (.int .i64 0) (.inr (by simp))
      replace r3 := cell_set r3 ⟨w.heap.size + 1, 1, none⟩ (.int .i64 0) (.inr (by simp))
      replace r4 := cell_set r4 ⟨w.heap.size + 1, 1, none⟩ (.int .i64 0) (.inr (by simp))
      replace r5 := cell_set r5 ⟨w.heap.size + 1, 1, none⟩ (.int .i64 0) (.inr (by simp))
      replace r6 := cell_set r6 ⟨w.heap.size + 1, 1, none⟩ (.int .i64 0) (.inr (by simp))
      replace M := M.put ⟨w.heap.size + 1, 1, none⟩ (.int .i64 0) (show w.heap.size ≤ w.heap.size + 1 from by omega)
      replace r0 := cell_set r0 ⟨w.heap.size + 1, 2, none⟩ (.int .i64 0) (.inr (by simp))
      replace r1 := cell_set r1 ⟨w.heap.size + 1, 2, none⟩ (.int .i64 0) (.inr (by simp))
      replace r2 := World.cell?_setCell_same _ _ (.int .i64 0) r2
      replace r3 := cell_set r3 ⟨w.heap.size + 1, 2, none⟩ (.int .i64 0) (.inr (by simp))
      replace r4 := cell_set r4 ⟨w.heap.size + 1, 2, none⟩ (.int .i64 0) (.inr (by simp))
      replace r5 := cell_set r5 ⟨w.heap.size + 1, 2, none⟩ (.int .i64 0) (.inr (by simp))
      replace r6 := cell_set r6 ⟨w.heap.size + 1, 2, none⟩ (.int .i64 0) (.inr (by simp))
      replace M := M.put ⟨w.heap.size + 1, 2, none⟩ (.int .i64 0) (show w.heap.size ≤ w.heap.size + 1 from by omega)
      replace r0 := cell_set r0 ⟨w.heap.size + 1, 3, none⟩ (.int .i64 0) (.inr (by simp))
      replace r1 := cell_set r1 ⟨w.heap.size + 1, 3, none⟩ (.int .i64 0) (.inr (by simp))
      replace r2 := cell_set r2 ⟨w.heap.size + 1, 3, none⟩ (.int .i64 0) (.inr (by simp))
      replace r3 := World.cell?_setCell_same _ _ (.int .i64 0) r3
      replace r4 := cell_set r4 ⟨w.heap.size + 1, 3, none⟩ (.int .i64 0) (.inr (by simp))
      replace r5 := cell_set r5 ⟨w.heap.size + 1, 3, none⟩ (.int .i64 0) (.inr (by simp))
      replace r6 := cell_set r6 ⟨w.heap.size + 1, 3, none⟩ (.int .i64 0) (.inr (by simp))
      replace M := M.put ⟨w.heap.size + 1, 3, none⟩ (.int .i64 0) (show w.heap.size ≤ w.heap.size + 1 from by omega)
      replace r0 := cell_set r0 ⟨w.heap.size + 1, 4, none⟩ (.int .i64 0) (.inr (by simp))
      replace r1 := cell_set r1 ⟨w.heap.size + 1, 4, none⟩ (.int .i64 0) (.inr (by simp))
      replace r2 := cell_set r2 ⟨w.heap.size + 1, 4, none⟩ (.int .i64 0) (.inr (by simp))
      replace r3 := cell_set r3 ⟨w.heap.size + 1, 4, none⟩ (.int .i64 0) (.inr (by simp))
      replace r4 := World.cell?_setCell_same _ _ (.int .i64 0) r4
      replace r5 := cell_set r5 ⟨w.heap.size + 1, 4, none⟩ (.int .i64 0) (.inr (by simp))
      replace r6 := cell_set r6 ⟨w.heap.size + 1, 4, none⟩ (.int .i64 0) (.inr (by simp))
      replace M := M.put ⟨w.heap.size + 1, 4, none⟩ (.int .i64 0) (show w.heap.size ≤ w.heap.size + 1 from by omega)
      replace r0 := cell_set r0 ⟨w.heap.size + 1, 5, none⟩ (.int .i64 0) (.inr (by simp))
      replace r1 := cell_set r1 ⟨w.heap.size + 1, 5, none⟩ (.int .i64 0) (.inr (by simp))
      replace r2 := cell_set r2 ⟨w.heap.size + 1, 5, none⟩ (.int .i64 0) (.inr (by simp))
      replace r3 := cell_set r3 ⟨w.heap.size + 1, 5, none⟩ (.int .i64 0) (.inr (by simp))
      replace r4 := cell_set r4 ⟨w.heap.size + 1, 5, none⟩ (.int .i64 0) (.inr (by simp))
      replace r5 := World.cell?_setCell_same _ _ (.int .i64 0) r5
      replace r6 := cell_set r6 ⟨w.heap.size + 1, 5, none⟩ (.int .i64 0) (.inr (by simp))
      replace M := M.put ⟨w.heap.size + 1, 5, none⟩ (.int .i64 0) (show w.heap.size ≤ w.heap.size + 1 from by omega)
      replace r0 := cell_set r0 ⟨w.heap.size + 1, 6, none⟩ (.int .i64 0) (.inr (by simp))
      replace r1 := cell_set r1 ⟨w.heap.size + 1, 6, none⟩ (.int .i64 0) (.inr (by simp))
      replace r2 := cell_set r2 ⟨w.heap.size + 1, 6, none⟩ (.int .i64 0) (.inr (by simp))
      replace r3 := cell_set r3 ⟨w.heap.size + 1, 6, none⟩ (.int .i64 0) (.inr (by simp))
      replace r4 := cell_set r4 ⟨w.heap.size + 1, 6, none⟩ (.int .i64 0) (.inr (by simp))
      replace r5 := cell_set r5 ⟨w.heap.size + 1, 6, none⟩ (.int .i64 0) (.inr (by simp))
      replace r6 := World.cell?_setCell_same _ _ (.int .i64 0) r6
      replace M := M.put ⟨w.heap.size + 1, 6, none⟩ (.int .i64 0) (show w.heap.size ≤ w.heap.size + 1 from by omega)
      generalize (((((((w3.setCell ⟨w.heap.size + 1, 0, none⟩ (.int .i64 0)).setCell ⟨w.heap.size + 1, 1, none⟩ (.int .i64 0)).setCell ⟨w.heap.size + 1, 2, none⟩ (.int .i64 0)).setCell ⟨w.heap.size + 1, 3, none⟩ (.int .i64 0)).setCell ⟨w.heap.size + 1, 4, none⟩ (.int .i64 0)).setCell ⟨w.heap.size + 1, 5, none⟩ (.int .i64 0)).setCell ⟨w.heap.size + 1, 6, none⟩ (.int .i64 0)) = WF at *
      refine bodyPost_ret (v := .agg #[.int .i64 0, .int .i64 0, .int .i64 0, .int .i64 0, .int .i64 0, .int .i64 0, .int .i64 0]) (by simp [results, Try.results14, go_sem, r0, r1, r2, r3, r4, r5, r6]) rfl ⟨?_, M⟩
      simp [icR, HR.out]
    · have HB := Lib.hid (show icB n0 r b = true by unfold icB; rw [q1, q2]; rfl)
      rw [q2] at he
      subst he
      obtain ⟨q, rfl, hq⟩ := isAs_nat q1
      clear q1 q2 Q1
      obtain ⟨bA, oA, x, rfl, hbA, hx, d0, d1, d2⟩ := HasAS.at _ _ _ _ _ _ (hA.mk M hB (.inr (Nat.le_refl _))) hq
      have hbr := World.block_lt_of_cell? _ _ d2
      simp only at hbr
      have i1 : (0 : Int) ≤ (q : Int) := by omega
      have i2 : (q : Int) < (n0 : Int) := by omega
      have HK := as_fits hA.1 hq hz hx.out
      obtain ⟨K, hK⟩ : ∃ K, Hid (K = icK zA (q : Int)) := ⟨_, Lib.hid rfl⟩
      have HKF := Lib.hid (icK_fits zA (q : Int))
      rw [← hK.out] at HKF
      have hD := implKD (some ⟨bA, oA, none⟩) a1 n0 c0 n1 c1 B zA q w3 (hA.mk M hB (.inr (Nat.le_refl _))) (Nat.le_trans hB M.size) hn0 hq hz
      rw [← hK.out] at hD
      go_wp2_with fail
      refine hD.mono ?_
      rintro e w4 ⟨rfl, mA⟩
      replace k0 := mA.cellAt k0
      replace k1 := mA.cellAt k1
      replace r0 := mA.cellAt r0
      replace r1 := mA.cellAt r1
      replace r2 := mA.cellAt r2
      replace r3 := mA.cellAt r3
      replace r4 := mA.cellAt r4
      replace r5 := mA.cellAt r5
      replace r6 := mA.cellAt r6
      have hs3R : w.heap.size + 1 < w3.heap.size := by omega
      replace fR := fun q2 => (mA.frozen (b := w.heap.size + 1) (o := q2) hs3R (.inr (Nat.zero_le _))).trans (fR q2)
      replace M := M.trans mA
      have hsz4 : w.heap.size + 1 < w4.heap.size := by have := mA.size; omega
      have MX := Mk.alloc w4 (Obj.cells #[Value.int .i64 (q : Int), Value.int .i64 K, Value.int .i64 ve, Value.int .i64 fr, Value.int .i64 un, Value.int .i64 0, Value.int .i64 0] 39)
      have cv0 : (w4.alloc (Obj.cells #[Value.int .i64 (q : Int), Value.int .i64 K, Value.int .i64 ve, Value.int .i64 fr, Value.int .i64 un, Value.int .i64 0, Value.int .i64 0] 39)).cell? ⟨w4.heap.size, 0, none⟩ = some (.int .i64 (q : Int)) := by simp [go_sem]
      have cv1 : (w4.alloc (Obj.cells #[Value.int .i64 (q : Int), Value.int .i64 K, Value.int .i64 ve, Value.int .i64 fr, Value.int .i64 un, Value.int .i64 0, Value.int .i64 0] 39)).cell? ⟨w4.heap.size, 1, none⟩ = some (.int .i64 K) := by simp [go_sem]
      have cv2 : (w4.alloc (Obj.cells #[Value.int .i64 (q : Int), Value.int .i64 K, Value.int .i64 ve, Value.int .i64 fr, Value.int .i64 un, Value.int .i64 0, Value.int .i64 0] 39)).cell? ⟨w4.heap.size, 2, none⟩ = some (.int .i64 ve) := by simp [go_sem]
      have cv3 : (w4.alloc (Obj.cells #[Value.int .i64 (q : Int), Value.int .i64 K, Value.int .i64 ve, Value.int .i64 fr, Value.int .i64 un, Value.int .i64 0, Value.int .i64 0] 39)).cell? ⟨w4.heap.size, 3, none⟩ = some (.int .i64 fr) := by simp [go_sem]
      have cv4 : (w4.alloc (Obj.cells #[Value.int .i64 (q : Int), Value.int .i64 K, Value.int .i64 ve, Value.int .i64 fr, Value.int .i64 un, Value.int .i64 0, Value.int .i64 0] 39)).cell? ⟨w4.heap.size, 4, none⟩ = some (.int .i64 un) := by simp [go_sem]
      have cv5 : (w4.alloc (Obj.cells #[Value.int .i64 (q : Int), Value.int .i64 K, Value.int .i64 ve, Value.int .i64 fr, Value.int .i64 un, Value.int .i64 0, Value.int .i64 0] 39)).cell? ⟨w4.heap.size, 5, none⟩ = some (.int .i64 0) := by simp [go_sem]
      have cv6 : (w4.alloc (Obj.cells #[Value.int .i64 (q : Int), Value.int .i64 K, Value.int .i64 ve, Value.int .i64 fr, Value.int .i64 un, Value.int .i64 0, Value.int .i64 0] 39)).cell? ⟨w4.heap.size, 6, none⟩ = some (.int .i64 0) := by simp [go_sem]
      have fC : ∀ q2, (w4.alloc (Obj.cells #[Value.int .i64 (q : Int), Value.int .i64 K, Value.int .i64 ve, Value.int .i64 fr, Value.int .i64 un, Value.int .i64 0, Value.int .i64 0] 39)).frozen? ⟨w4.heap.size, q2, none⟩ = false := fun q2 => by simp [go_sem]
      replace k0 := MX.cellAt k0
      replace k1 := MX.cellAt k1
      replace r0 := MX.cellAt r0
      replace r1 := MX.cellAt r1
      replace r2 := MX.cellAt r2
      replace r3 := MX.cellAt r3
      replace r4 := MX.cellAt r4
      replace r5 := MX.cellAt r5
      replace r6 := MX.cellAt r6
      replace fR := fun q2 => (MX.frozen (b := w.heap.size + 1) (o := q2) hsz4 (.inr (Nat.zero_le _))).trans (fR q2)
      replace M := M.trans MX
      have hsC : w4.heap.size < (w4.alloc (Obj.cells #[Value.int .i64 (q : Int), Value.int .i64 K, Value.int .i64 ve, Value.int .i64 fr, Value.int .i64 un, Value.int .i64 0, Value.int .i64 0] 39)).heap.size := by rw [World.size_alloc]; omega
      obtain ⟨sg, hsg⟩ : ∃ sg, Hid (sg = sgV zA n0 b [(q : Int), K, ve, fr, un]) := ⟨_, Lib.hid rfl⟩
      have HM := Lib.hid M
      have HL := Lib.hid (show ∀ z ∈ [(q : Int), K, ve, fr, un], (Lit.int .i64 z).wf = true from by intro z hz2; simp only [List.mem_cons, List.not_mem_nil, or_false] at hz2; rcases hz2 with rfl | rfl | rfl | rfl | rfl <;> first | exact hr | exact hve | exact hfr | exact hun | exact HKF.out)
      have HZ := Lib.hid hz
      clear hz d0 d1 d2 HK
      go_wp2_with fail
      generalize (w4.alloc (Obj.cells #[Value.int .i64 (q : Int), Value.int .i64 K, Value.int .i64 ve, Value.int .i64 fr, Value.int .i64 un, Value.int .i64 0, Value.int .i64 0] 39)) = w5 at *
      refine wp_region_fk (fun w' => Mk0 w5 w' ∧ w'.cell? ⟨w.heap.size, 0, none⟩ = some (.slice (some ⟨bA, oA, none⟩) n0 c0) ∧ w'.cell? ⟨w.heap.size, 1, none⟩ = some (.slice a1 n1 c1) ∧ w'.cell? ⟨w4.heap.size, 0, none⟩ = some (.int .i64 (q : Int)) ∧ w'.cell? ⟨w4.heap.size, 1, none⟩ = some (.int .i64 K) ∧ w'.cell? ⟨w4.heap.size, 2, none⟩ = some (.int .i64 ve) ∧ w'.cell? ⟨w4.heap.size, 3, none⟩ = some (.int .i64 fr) ∧ w'.cell? ⟨w4.heap.size, 4, none⟩ = some (.int .i64 un) ∧ w'.cell? ⟨w4.heap.size, 5, none⟩ = some (.int .i64 0) ∧ w'.cell? ⟨w4.heap.size, 6, none⟩ = some (.int .i64 0)) (fkF [fun v w => v = .agg #[.slice (some ⟨bA, oA, none⟩) n0 c0, .slice a1 n1 c1], fun v w => v = .int .i64 b, fun v w => v = .agg #[.int .i64 (q : Int), .int .i64 K, .int .i64 ve, .int .i64 fr, .int .i64 un, .int .i64 0, .int .i64 0], fun v w => ∃ A C, v = .slice A 5 C ∧ (A = none → C = 0) ∧ Has .i64 w w.heap.size A 5 [(q : Int), K, ve, fr, un], fun v w => v = .agg #[.int .i64 sg.nd, .int .i64 sg.val], fun v w => v = .pointer (some ⟨w4.heap.size, 5, none⟩)]) 6 (by kernel_rfl) (by kernel_rfl) (by decide) (by kernel_rfl) (fkM_mono ⟨fun v w w' h m => h, fun v w w' h m => h, fun v w w' h m => h, fun v w w' h m => (by obtain ⟨A, C, h1, h2, h3⟩ := h; exact ⟨A, C, h1, h2, h3.next m.below0⟩), fun v w w' h m => h, fun v w w' h m => h, trivial⟩) (⟨Mk.drew1 _, k0, k1, cv0, cv1, cv2, cv3, cv4, cv5, cv6⟩) ?_
      change WkF _ _ _ _ _ 6 6 0 _
      refine WkF.value (m := 5) (k := 0) rfl rfl (of_decide_eq_true (by rfl)) rfl (fun w hS hF => ?_) (fun v0 => ?_)
      · obtain ⟨s0, s1, s2, s3, s4, s5, s6, s7, s8, s9⟩ := hS
        exact ⟨.agg #[.slice (some ⟨bA, oA, none⟩) n0 c0, .slice a1 n1 c1], w, (by go_simp; try with_reducible rfl), ⟨s0, s1, s2, s3, s4, s5, s6, s7, s8, s9⟩, Mk.refl _ _ _, rfl⟩
      try simp only [Act.put, List.getElem_toArray, List.getElem_cons_zero, List.setIfInBounds_toArray, List.set_cons_zero, List.set_cons_succ]
      refine WkF.value (m := 4) (k := 1) rfl rfl (of_decide_eq_true (by rfl)) rfl (fun w hS hF => ?_) (fun v1 => ?_)
      · obtain ⟨s0, s1, s2, s3, s4, s5, s6, s7, s8, s9⟩ := hS
        exact ⟨.int .i64 b, w, (by go_simp; try with_reducible rfl), ⟨s0, s1, s2, s3, s4, s5, s6, s7, s8, s9⟩, Mk.refl _ _ _, rfl⟩
      try simp only [Act.put, List.getElem_toArray, List.getElem_cons_succ, List.getElem_cons_zero, List.setIfInBounds_toArray, List.set_cons_zero, List.set_cons_succ]
      refine WkF.value (m := 3) (k := 2) rfl rfl (of_decide_eq_true (by rfl)) rfl (fun w hS hF => ?_) (fun v2 => ?_)
      · obtain ⟨s0, s1, s2, s3, s4, s5, s6, s7, s8, s9⟩ := hS
        exact ⟨.agg #[.int .i64 (q : Int), .int .i64 K, .int .i64 ve, .int .i64 fr, .int .i64 un, .int .i64 0, .int .i64 0], w, (by go_simp; try with_reducible rfl), ⟨s0, s1, s2, s3, s4, s5, s6, s7, s8, s9⟩, Mk.refl _ _ _, rfl⟩
      try simp only [Act.put, List.getElem_toArray, List.getElem_cons_succ, List.getElem_cons_zero, List.setIfInBounds_toArray, List.set_cons_zero, List.set_cons_succ]
      refine WkF.call (m := 2) (k := 3) rfl rfl (of_decide_eq_true (by rfl)) rfl (fun w hS hF => ?_) (fun v3 => ?_)
      · obtain ⟨s0, s1, s2, s3, s4, s5, s6, s7, s8, s9⟩ := hS
        have f2 : v2 = .agg #[.int .i64 (q : Int), .int .i64 K, .int .i64 ve, .int .i64 fr, .int .i64 un, .int .i64 0, .int .i64 0] := hF 2 (by rfl)
        obtain rfl := f2
        refine ⟨_, _, (by go_simp; first | done | exact ⟨rfl, rfl⟩ | with_reducible rfl), ?_⟩
        refine (implCData (q : Int) K ve fr un 0 0 w).mono ?_
        rintro e w' ⟨A, N, C, rfl, hc, hO, bm⟩
        have mm := Mk.of_below bm; exact ⟨_, rfl, ⟨s0.trans mm, mm.cellAt s1, mm.cellAt s2, mm.cellAt s3, mm.cellAt s4, mm.cellAt s5, mm.cellAt s6, mm.cellAt s7, mm.cellAt s8, mm.cellAt s9⟩, mm, (by obtain rfl : N = 5 := hO.1.symm; exact ⟨A, C, rfl, hc, hO.has⟩)⟩
      try simp only [Act.put, List.getElem_toArray, List.getElem_cons_succ, List.getElem_cons_zero, List.setIfInBounds_toArray, List.set_cons_zero, List.set_cons_succ]
      refine WkF.call (m := 1) (k := 4) rfl rfl (of_decide_eq_true (by rfl)) rfl (fun w hS hF => ?_) (fun v4 => ?_)
      · obtain ⟨s0, s1, s2, s3, s4, s5, s6, s7, s8, s9⟩ := hS
        have f0 : v0 = .agg #[.slice (some ⟨bA, oA, none⟩) n0 c0, .slice a1 n1 c1] := hF 0 (by rfl)
        obtain rfl := f0
        have f1 : v1 = .int .i64 b := hF 1 (by rfl)
        obtain rfl := f1
        have f3 : ∃ A C, v3 = .slice A 5 C ∧ (A = none → C = 0) ∧ Has .i64 w w.heap.size A 5 [(q : Int), K, ve, fr, un] := hF 3 (by rfl)
        obtain ⟨A, C, rfl, hc, hL⟩ := f3
        refine ⟨_, _, (by go_simp; first | done | exact ⟨rfl, rfl⟩ | with_reducible rfl), ?_⟩
        refine (implSignAs (some ⟨bA, oA, none⟩) a1 n0 c0 n1 c1 B zA b A 5 C _ [(q : Int), K, ve, fr, un] sg hsg.out w (hA.mk (HM.out.trans s0) hB (.inr (Nat.le_refl _))) (Nat.le_trans hB (HM.out.trans s0).size) hn0 HZ.out hL (Nat.le_refl _) (by omega) hc HL.out).mono ?_
        rintro e w' ⟨rfl, mm⟩
        exact ⟨_, rfl, ⟨s0.trans mm, mm.cellAt s1, mm.cellAt s2, mm.cellAt s3, mm.cellAt s4, mm.cellAt s5, mm.cellAt s6, mm.cellAt s7, mm.cellAt s8, mm.cellAt s9⟩, mm, rfl⟩
      try simp only [Act.put, List.getElem_toArray, List.getElem_cons_succ, List.getElem_cons_zero, List.setIfInBounds_toArray, List.set_cons_zero, List.set_cons_succ]
      refine WkF.value (m := 0) (k := 5) rfl rfl (of_decide_eq_true (by rfl)) rfl (fun w hS hF => ?_) (fun v5 => ?_)
      · obtain ⟨s0, s1, s2, s3, s4, s5, s6, s7, s8, s9⟩ := hS
        exact ⟨.pointer (some ⟨w4.heap.size, 5, none⟩), w, (by go_simp; try with_reducible rfl), ⟨s0, s1, s2, s3, s4, s5, s6, s7, s8, s9⟩, Mk.refl _ _ _, rfl⟩
      try simp only [Act.put, List.getElem_toArray, List.getElem_cons_succ, List.getElem_cons_zero, List.setIfInBounds_toArray, List.set_cons_zero, List.set_cons_succ]
      refine WkF.done fun wE hE hF => ?_
      clear k0 k1 cv0 cv1 cv2 cv3 cv4 cv5 cv6
      obtain ⟨mE, k0, k1, cv0, cv1, cv2, cv3, cv4, cv5, cv6⟩ := hE
      change wpAny _ _ _ _ 1 _ _ _
      have f4 : v4 = .agg #[.int .i64 sg.nd, .int .i64 sg.val] := hF 4 (by decide)
      obtain rfl := f4
      have f5 : v5 = .pointer (some ⟨w4.heap.size, 5, none⟩) := hF 5 (by decide)
      obtain rfl := f5
      have fCE : ∀ q2, wE.frozen? ⟨w4.heap.size, q2, none⟩ = false := fun q2 => (mE.frozen (b := w4.heap.size) (o := q2) hsC (.inr (Nat.zero_le _))).trans (fC q2)
      replace r0 := mE.cellAt r0
      replace r1 := mE.cellAt r1
      replace r2 := mE.cellAt r2
      replace r3 := mE.cellAt r3
      replace r4 := mE.cellAt r4
      replace r5 := mE.cellAt r5
      replace r6 := mE.cellAt r6
      replace fR := fun q2 => (mE.frozen (b := w.heap.size + 1) (o := q2) (by omega) (.inr (Nat.zero_le _))).trans (fR q2)
      have ME := HM.out.trans mE
      refine wpAny_ready (rs := [6]) (by kernel_rfl) (by simp) ?_
      refine (AllReady.cons rfl (fun K hK => ?_) AllReady.nil)
      go_simp
      refine hK _ _ ?_
      clear hK K
      try simp only [Act.put, List.getElem_toArray, List.getElem_cons_succ, List.getElem_cons_zero, List.setIfInBounds_toArray, List.set_cons_zero, List.set_cons_succ]
      refine wpAny_done (by kernel_rfl) ?_ _
      refine ‹∀ (a : Act) (w : World), _ → _› _ _ ?_
      replace cv0 := cell_set cv0 ⟨w4.heap.size, 5, none⟩ (.int .i64 sg.nd) (.inr (by simp))
      replace cv1 := cell_set cv1 ⟨w4.heap.size, 5, none⟩ (.int .i64 sg.nd) (.inr (by simp))
      replace cv2 := cell_set cv2 ⟨w4.heap.size, 5, none⟩ (.int .i64 sg.nd) (.inr (by simp))
      replace cv3 := cell_set cv3 ⟨w4.heap.size, 5, none⟩ (.int .i64 sg.nd) (.inr (by simp))
      replace cv4 := cell_set cv4 ⟨w4.heap.size, 5, none⟩ (.int .i64 sg.nd) (.inr (by simp))
      replace cv5 := World.cell?_setCell_same _ _ (.int .i64 sg.nd) cv5
      replace cv6 := cell_set cv6 ⟨w4.heap.size, 5, none⟩ (.int .i64 sg.nd) (.inr (by simp))
      replace r0 := cell_set r0 ⟨w4.heap.size, 5, none⟩ (.int .i64 sg.nd) (.inl (show w4.heap.size ≠ w.heap.size + 1 from by omega))
      replace r1 := cell_set r1 ⟨w4.heap.size, 5, none⟩ (.int .i64 sg.nd) (.inl (show w4.heap.size ≠ w.heap.size + 1 from by omega))
      replace r2 := cell_set r2 ⟨w4.heap.size, 5, none⟩ (.int .i64 sg.nd) (.inl (show w4.heap.size ≠ w.heap.size + 1 from by omega))
      replace r3 := cell_set r3 ⟨w4.heap.size, 5, none⟩ (.int .i64 sg.nd) (.inl (show w4.heap.size ≠ w.heap.size + 1 from by omega))
      replace r4 := cell_set r4 ⟨w4.heap.size, 5, none⟩ (.int .i64 sg.nd) (.inl (show w4.heap.size ≠ w.heap.size + 1 from by omega))
      replace r5 := cell_set r5 ⟨w4.heap.size, 5, none⟩ (.int .i64 sg.nd) (.inl (show w4.heap.size ≠ w.heap.size + 1 from by omega))
      replace r6 := cell_set r6 ⟨w4.heap.size, 5, none⟩ (.int .i64 sg.nd) (.inl (show w4.heap.size ≠ w.heap.size + 1 from by omega))
      replace fR := fun q2 => frozen_set (fR q2) ⟨w4.heap.size, 5, none⟩ (.int .i64 sg.nd)
      replace ME := ME.put ⟨w4.heap.size, 5, none⟩ (.int .i64 sg.nd) (show w.heap.size ≤ w4.heap.size from by omega)
      replace cv0 := cell_set cv0 ⟨w4.heap.size, 6, none⟩ (.int .i64 sg.val) (.inr (by simp))
      replace cv1 := cell_set cv1 ⟨w4.heap.size, 6, none⟩ (.int .i64 sg.val) (.inr (by simp))
      replace cv2 := cell_set cv2 ⟨w4.heap.size, 6, none⟩ (.int .i64 sg.val) (.inr (by simp))
      replace cv3 := cell_set cv3 ⟨w4.heap.size, 6, none⟩ (.int .i64 sg.val) (.inr (by simp))
      replace cv4 := cell_set cv4 ⟨w4.heap.size, 6, none⟩ (.int .i64 sg.val) (.inr (by simp))
      replace cv5 := cell_set cv5 ⟨w4.heap.size, 6, none⟩ (.int .i64 sg.val) (.inr (by simp))
      replace cv6 := World.cell?_setCell_same _ _ (.int .i64 sg.val) cv6
      replace r0 := cell_set r0 ⟨w4.heap.size, 6, none⟩ (.int .i64 sg.val) (.inl (show w4.heap.size ≠ w.heap.size + 1 from by omega))
      replace r1 := cell_set r1 ⟨w4.heap.size, 6, none⟩ (.int .i64 sg.val) (.inl (show w4.heap.size ≠ w.heap.size + 1 from by omega))
      replace r2 := cell_set r2 ⟨w4.heap.size, 6, none⟩ (.int .i64 sg.val) (.inl (show w4.heap.size ≠ w.heap.size + 1 from by omega))
      replace r3 := cell_set r3 ⟨w4.heap.size, 6, none⟩ (.int .i64 sg.val) (.inl (show w4.heap.size ≠ w.heap.size + 1 from by omega))
      replace r4 := cell_set r4 ⟨w4.heap.size, 6, none⟩ (.int .i64 sg.val) (.inl (show w4.heap.size ≠ w.heap.size + 1 from by omega))
      replace r5 := cell_set r5 ⟨w4.heap.size, 6, none⟩ (.int .i64 sg.val) (.inl (show w4.heap.size ≠ w.heap.size + 1 from by omega))
      replace r6 := cell_set r6 ⟨w4.heap.size, 6, none⟩ (.int .i64 sg.val) (.inl (show w4.heap.size ≠ w.heap.size + 1 from by omega))
      replace fR := fun q2 => frozen_set (fR q2) ⟨w4.heap.size, 6, none⟩ (.int .i64 sg.val)
      replace ME := ME.put ⟨w4.heap.size, 6, none⟩ (.int .i64 sg.val) (show w.heap.size ≤ w4.heap.size from by omega)
      generalize ((wE.setCell ⟨w4.heap.size, 5, none⟩ (.int .i64 sg.nd)).setCell ⟨w4.heap.size, 6, none⟩ (.int .i64 sg.val)) = w9 at *
      go_wp2_with fail
      replace r0 := World.cell?_setCell_same _ _ (.int .i64 (q : Int)) r0
      replace r1 := cell_set r1 ⟨w.heap.size + 1, 0, none⟩ (.int .i64 (q : Int)) (.inr (by simp))
      replace r2 := cell_set r2 ⟨w.heap.size + 1, 0, none⟩ (.int .i64 (q : Int)) (.inr (by simp))
      replace r3 := cell_set r3 ⟨w.heap.size + 1, 0, none⟩ (.int .i64 (q : Int)) (.inr (by simp))
      replace r4 := cell_set r4 ⟨w.heap.size + 1, 0, none⟩ (.int .i64 (q : Int)) (.inr (by simp))
      replace r5 := cell_set r5 ⟨w.heap.size + 1, 0, none⟩ (.int .i64 (q : Int)) (.inr (by simp))
      replace r6 := cell_set r6 ⟨w.heap.size + 1, 0, none⟩ (.int .i64 (q : Int)) (.inr (by simp))
      replace ME := ME.put ⟨w.heap.size + 1, 0, none⟩ (.int .i64 (q : Int)) (show w.heap.size ≤ w.heap.size + 1 from by omega)
      replace r0 := cell_set r0 ⟨w.heap.size + 1, 1, none⟩ (.int .i64 K) (.inr (by simp))
      replace r1 := World.cell?_setCell_same _ _ (.int .i64 K) r1
      replace r2 := cell_set r2 ⟨w.heap.size + 1, 1, none⟩ (.int .i64 K) (.inr (by simp))
      replace r3 := cell_set r3 ⟨w.heap.size + 1, 1, none⟩ (.int .i64 K) (.inr (by simp))
      replace r4 := cell_set r4 ⟨w.heap.size + 1, 1, none⟩ (.int .i64 K) (.inr (by simp))
      replace r5 := cell_set r5 ⟨w.heap.size + 1, 1, none⟩ (.int .i64 K) (.inr (by simp))
      replace r6 := cell_set r6 ⟨w.heap.size + 1, 1, none⟩ (.int .i64 K) (.inr (by simp))
      replace ME := ME.put ⟨w.heap.size + 1, 1, none⟩ (.int .i64 K) (show w.heap.size ≤ w.heap.size + 1 from by omega)
      replace r0 := cell_set r0 ⟨w.heap.size + 1, 2, none⟩ (.int .i64 ve) (.inr (by simp))
      replace r1 := cell_set r1 ⟨w.heap.size + 1, 2, none⟩ (.int .i64 ve) (.inr (by simp))
      replace r2 := World.cell?_setCell_same _ _ (.int .i64 ve) r2
      replace r3 := cell_set r3 ⟨w.heap.size + 1, 2, none⟩ (.int .i64 ve) (.inr (by simp))
      replace r4 := cell_set r4 ⟨w.heap.size + 1, 2, none⟩ (.int .i64 ve) (.inr (by simp))
      replace r5 := cell_set r5 ⟨w.heap.size + 1, 2, none⟩ (.int .i64 ve) (.inr (by simp))
      replace r6 := cell_set r6 ⟨w.heap.size + 1, 2, none⟩ (.int .i64 ve) (.inr (by simp))
      replace ME := ME.put ⟨w.heap.size + 1, 2, none⟩ (.int .i64 ve) (show w.heap.size ≤ w.heap.size + 1 from by omega)
      replace r0 := cell_set r0 ⟨w.heap.size + 1, 3, none⟩ (.int .i64 fr) (.inr (by simp))
      replace r1 := cell_set r1 ⟨w.heap.size + 1, 3, none⟩ (.int .i64 fr) (.inr (by simp))
      replace r2 := cell_set r2 ⟨w.heap.size + 1, 3, none⟩ (.int .i64 fr) (.inr (by simp))
      replace r3 := World.cell?_setCell_same _ _ (.int .i64 fr) r3
      replace r4 := cell_set r4 ⟨w.heap.size + 1, 3, none⟩ (.int .i64 fr) (.inr (by simp))
      replace r5 := cell_set r5 ⟨w.heap.size + 1, 3, none⟩ (.int .i64 fr) (.inr (by simp))
      replace r6 := cell_set r6 ⟨w.heap.size + 1, 3, none⟩ (.int .i64 fr) (.inr (by simp))
      replace ME := ME.put ⟨w.heap.size + 1, 3, none⟩ (.int .i64 fr) (show w.heap.size ≤ w.heap.size + 1 from by omega)
      replace r0 := cell_set r0 ⟨w.heap.size + 1, 4, none⟩ (.int .i64 un) (.inr (by simp))
      replace r1 := cell_set r1 ⟨w.heap.size + 1, 4, none⟩ (.int .i64 un) (.inr (by simp))
      replace r2 := cell_set r2 ⟨w.heap.size + 1, 4, none⟩ (.int .i64 un) (.inr (by simp))
      replace r3 := cell_set r3 ⟨w.heap.size + 1, 4, none⟩ (.int .i64 un) (.inr (by simp))
      replace r4 := World.cell?_setCell_same _ _ (.int .i64 un) r4
      replace r5 := cell_set r5 ⟨w.heap.size + 1, 4, none⟩ (.int .i64 un) (.inr (by simp))
      replace r6 := cell_set r6 ⟨w.heap.size + 1, 4, none⟩ (.int .i64 un) (.inr (by simp))
      replace ME := ME.put ⟨w.heap.size + 1, 4, none⟩ (.int .i64 un) (show w.heap.size ≤ w.heap.size + 1 from by omega)
      replace r0 := cell_set r0 ⟨w.heap.size + 1, 5, none⟩ (.int .i64 sg.nd) (.inr (by simp))
      replace r1 := cell_set r1 ⟨w.heap.size + 1, 5, none⟩ (.int .i64 sg.nd) (.inr (by simp))
      replace r2 := cell_set r2 ⟨w.heap.size + 1, 5, none⟩ (.int .i64 sg.nd) (.inr (by simp))
      replace r3 := cell_set r3 ⟨w.heap.size + 1, 5, none⟩ (.int .i64 sg.nd) (.inr (by simp))
      replace r4 := cell_set r4 ⟨w.heap.size + 1, 5, none⟩ (.int .i64 sg.nd) (.inr (by simp))
      replace r5 := World.cell?_setCell_same _ _ (.int .i64 sg.nd) r5
      replace r6 := cell_set r6 ⟨w.heap.size + 1, 5, none⟩ (.int .i64 sg.nd) (.inr (by simp))
      replace ME := ME.put ⟨w.heap.size + 1, 5, none⟩ (.int .i64 sg.nd) (show w.heap.size ≤ w.heap.size + 1 from by omega)
      replace r0 := cell_set r0 ⟨w.heap.size + 1, 6, none⟩ (.int .i64 sg.val) (.inr (by simp))
      replace r1 := cell_set r1 ⟨w.heap.size + 1, 6, none⟩ (.int .i64 sg.val) (.inr (by simp))
      replace r2 := cell_set r2 ⟨w.heap.size + 1, 6, none⟩ (.int .i64 sg.val) (.inr (by simp))
      replace r3 := cell_set r3 ⟨w.heap.size + 1, 6, none⟩ (.int .i64 sg.val) (.inr (by simp))
      replace r4 := cell_set r4 ⟨w.heap.size + 1, 6, none⟩ (.int .i64 sg.val) (.inr (by simp))
      replace r5 := cell_set r5 ⟨w.heap.size + 1, 6, none⟩ (.int .i64 sg.val) (.inr (by simp))
      replace r6 := World.cell?_setCell_same _ _ (.int .i64 sg.val) r6
      replace ME := ME.put ⟨w.heap.size + 1, 6, none⟩ (.int .i64 sg.val) (show w.heap.size ≤ w.heap.size + 1 from by omega)
      generalize (((((((w9.setCell ⟨w.heap.size + 1, 0, none⟩ (.int .i64 (q : Int))).setCell ⟨w.heap.size + 1, 1, none⟩ (.int .i64 K)).setCell ⟨w.heap.size + 1, 2, none⟩ (.int .i64 ve)).setCell ⟨w.heap.size + 1, 3, none⟩ (.int .i64 fr)).setCell ⟨w.heap.size + 1, 4, none⟩ (.int .i64 un)).setCell ⟨w.heap.size + 1, 5, none⟩ (.int .i64 sg.nd)).setCell ⟨w.heap.size + 1, 6, none⟩ (.int .i64 sg.val)) = WF at *
      refine bodyPost_ret (v := .agg #[.int .i64 (q : Int), .int .i64 K, .int .i64 ve, .int .i64 fr, .int .i64 un, .int .i64 sg.nd, .int .i64 sg.val]) (by simp [results, Try.results14, go_sem, r0, r1, r2, r3, r4, r5, r6]) rfl ⟨?_, ME⟩
      simp [icR, icV, HB.out, ← hK.out, ← hsg.out]

end Go.Proofs.Ytoicmmandniagaa
