
/- EncodablePath of both sides. -/
import Derived.Test.YtpfjjfbheliinaaEncable
import Derived.Test.YtpfjjfbheliinaaPart
import Derived.Test.YtpfjjfbheliinaaNPathPart
import Derived.Test.YtpfjjfbheliinaaCPath
namespace Go.Proofs.Ytpfjjfbheliinaa
open Go.ChangeShapes Go.WideShapes Go.ChangeAt Go.RowKit
set_option linter.unusedVariables false
def encPartB (x : TPathPart) : Bool := if 1 ≤ x.kind ∧ x.kind ≤ 4 then encB x.ts x.beta x.hops x.hops.length else false
def allTo {α : Type} [Inhabited α] (p : α → Bool) (zs : List α) : Nat → Bool
  | 0 => true
  | k + 1 => allTo p zs k && p (zs.getD k default)
theorem allTo_stop {α : Type} [Inhabited α] {p : α → Bool} {zs : List α} {k : Nat} (h : p (zs.getD k default) = false) : ∀ n, k < n → allTo p zs n = false
  | 0, hk => absurd hk (by omega)
  | n + 1, hk => by
    rw [allTo]
    by_cases e : k = n
    · subst e; rw [h]; simp
    · rw [allTo_stop h n (by omega)]; rfl
theorem allTo_go {α : Type} [Inhabited α] {p : α → Bool} {zs : List α} {k : Nat} (h0 : allTo p zs k = true) (h : p (zs.getD k default) = true) : allTo p zs (k + 1) = true := by
  rw [allTo, h0, h]; rfl
def encPathB (zs : List TPathPart) (n : Nat) : Bool := if n ≤ 3 then allTo encPartB zs n else false

set_option maxRecDepth 100000 in
set_option maxHeartbeats 4000000 in
theorem implPKYes (k : Int) (w : World) (h1 : 1 ≤ k) (h2 : k ≤ 4) : Calls Try.prog 173 #[.int .i64 k] w fun e w' => e = .returned (.bool true) ∧ Mk0 w w' := by
  have hk : k = 1 ∨ k = 2 ∨ k = 3 ∨ k = 4 := by omega
  clear h1 h2
  rcases hk with rfl | rfl | rfl | rfl
  · go_enter Try.func173, Try.ntmps173
    go_wp2_with fail
    refine (kindIs1 _).mono ?_
    rintro e w1 ⟨rfl, m1⟩
    go_wp2_with fail
    go_ret
    exact ⟨rfl, m1⟩
  · go_enter Try.func173, Try.ntmps173
    go_wp2_with fail
    refine (kindIs2 _).mono ?_
    rintro e w1 ⟨rfl, m1⟩
    go_wp2_with fail
    go_ret
    exact ⟨rfl, m1⟩
  · go_enter Try.func173, Try.ntmps173
    go_wp2_with fail
    refine (kindIs3 _).mono ?_
    rintro e w1 ⟨rfl, m1⟩
    go_wp2_with fail
    go_ret
    exact ⟨rfl, m1⟩
  · go_enter Try.func173, Try.ntmps173
    go_wp2_with fail
    refine (kindIs4 _).mono ?_
    rintro e w1 ⟨rfl, m1⟩
    go_wp2_with fail
    go_ret
    exact ⟨rfl, m1⟩

set_option maxRecDepth 100000 in
set_option maxHeartbeats 4000000 in
theorem implPKNo (k : Int) (w : World) (h : k < 1 ∨ 4 < k) : Calls Try.prog 173 #[.int .i64 k] w fun e w' => e = .returned (.bool false) ∧ Mk0 w w' := by
  have n1 : (k == 1) = false := by simp; omega
  have n2 : (k == 2) = false := by simp; omega
  have n3 : (k == 3) = false := by simp; omega
  have n4 : (k == 4) = false := by simp; omega
  clear h
  go_enter Try.func173, Try.ntmps173
  go_wp2_with fail
  refine (kindIs0 _ _ n1 n2 n3 n4).mono ?_
  rintro e w1 ⟨rfl, m1⟩
  go_wp2_with fail
  go_ret
  exact ⟨rfl, m1⟩

set_option maxRecDepth 100000 in
set_option maxHeartbeats 4000000 in
theorem implSegOf (x0 x1 x2 : Int) (a : Option Addr) (n c : Nat) (w : World) :
    Calls Try.prog 175 #[.agg #[.int .i64 x0, .int .i64 x1, .int .i64 x2, .slice a n c]] w fun e w' => e = .returned (.agg #[.int .i64 x1, .int .i64 x2, .slice a n c]) ∧ Mk0 w w' := by
  go_enter Try.func175, Try.ntmps175
  go_wp2_with fail
  all_goals (try go_quiet (fail))
  all_goals (try go_wp2_with fail)
  refine bodyPost_ret (v := .agg #[.int .i64 x1, .int .i64 x2, .slice a n c]) (by simp [results, Try.results175, go_sem]) rfl ⟨rfl, Mk.of_below ?_⟩
  go_grown

set_option maxRecDepth 100000 in
set_option maxHeartbeats 4000000 in
theorem specEncPath (a : Option Addr) (n c B : Nat) (zs : List TPathPart) (w : World) (h : HasPathPart w B a n zs) (hB : B ≤ w.heap.size) (hn : szPathPart zs n ≤ 1048576) :
    Calls Try.prog 143 #[.agg #[.slice a n c]] w fun e w' => e = .returned (.bool (encPathB zs n)) ∧ Mk0 w w' := by
  have hn0 : n ≤ 1048576 := Nat.le_trans (szPathPart_n zs n) hn
  have M0 := Mk.alloc w (Obj.cells #[Value.slice a n c] 67)
  by_cases h3 : n ≤ 3
  · have HR := Lib.hid (show encPathB zs n = allTo encPartB zs n from if_pos h3)
    have h3' : (n : Int) ≤ 3 := by omega
    go_enter Try.func143, Try.ntmps143
    go_wp2_with fail
    go_loopw [2, 3] (fun r i wr => r = .bool false ∧ ∃ k : Nat, k ≤ n ∧ i = .int .i64 k ∧ Hid (allTo encPartB zs k = true) ∧ Mk0 (w.alloc (Obj.cells #[Value.slice a n c] 67)) wr) (fun _ i _ => n - (intOf i).toNat)
    case atStart => exact ⟨rfl, 0, Nat.zero_le _, rfl, rfl, Mk.refl _ _ _⟩
    case round =>
      obtain ⟨rfl, k, hk, rfl, hS, hM⟩ := hrel
      have hM' := M0.trans hM
      have k0 : (w.alloc (Obj.cells #[Value.slice a n c] 67)).cell? ⟨w.heap.size, 0, none⟩ = some (.slice a n c) := by simp [go_sem]
      replace k0 := hM.cellAt k0
      have y0 := World.block_lt_of_cell? _ _ k0
      simp only at y0
      by_cases hlt : k < n
      · obtain ⟨b, off, x, rfl, hb, hx, a3, n3, c3, d0, d1, d2, d3, r3, m3, t3, z3⟩ := HasPathPart.at _ _ _ _ _ _ (h.mk hM' hB (.inr (Nat.le_refl _))) hlt
        have hs3 : n3 ≤ 1048576 := by have HS := szPathPart_at zs hlt; rw [← hx.out] at HS; unfold sePathPart at HS; have := r3.1; omega
        have hB1 := Nat.le_trans hB hM'.size
        have hbr := World.block_lt_of_cell? _ _ d0
        simp only at hbr
        have MX := Mk.alloc wr (Obj.cells #[Value.int .i64 x.kind, Value.int .i64 x.ts, Value.int .i64 x.beta, Value.slice a3 n3 c3] 119)
        have MY := hM'.trans MX
        have j0 : (wr.alloc (Obj.cells #[Value.int .i64 x.kind, Value.int .i64 x.ts, Value.int .i64 x.beta, Value.slice a3 n3 c3] 119)).cell? ⟨wr.heap.size, 0, none⟩ = some (.int .i64 x.kind) := by rw [World.cell?_alloc_at _ _ _ _ rfl]; rfl
        have j1 : (wr.alloc (Obj.cells #[Value.int .i64 x.kind, Value.int .i64 x.ts, Value.int .i64 x.beta, Value.slice a3 n3 c3] 119)).cell? ⟨wr.heap.size, 1, none⟩ = some (.int .i64 x.ts) := by rw [World.cell?_alloc_at _ _ _ _ rfl]; rfl
        have j2 : (wr.alloc (Obj.cells #[Value.int .i64 x.kind, Value.int .i64 x.ts, Value.int .i64 x.beta, Value.slice a3 n3 c3] 119)).cell? ⟨wr.heap.size, 2, none⟩ = some (.int .i64 x.beta) := by rw [World.cell?_alloc_at _ _ _ _ rfl]; rfl
        have j3 : (wr.alloc (Obj.cells #[Value.int .i64 x.kind, Value.int .i64 x.ts, Value.int .i64 x.beta, Value.slice a3 n3 c3] 119)).cell? ⟨wr.heap.size, 3, none⟩ = some (.slice a3 n3 c3) := by rw [World.cell?_alloc_at _ _ _ _ rfl]; rfl
        have HV := Lib.hid (show encPartB (zs.getD k default) = if 1 ≤ x.kind ∧ x.kind ≤ 4 then encB x.ts x.beta x.hops n3 else false by rw [← hx.out]; unfold encPartB; rw [r3.1])
        by_cases hkd : 1 ≤ x.kind ∧ x.kind ≤ 4
        · replace HV := Lib.hid (HV.out.trans (if_pos hkd))
          cases he : encB x.ts x.beta x.hops n3
          · have HE := Lib.hid (show encPathB zs n = false by rw [HR.out]; exact allTo_stop (HV.out.trans he) n hlt)
            have HX := Lib.hid he
            clear he
            go_wp2_with fail
            refine (specInYes _ _ _ _ hkd.1 hkd.2).mono ?_
            rintro e w1 ⟨rfl, rfl⟩
            go_wp2_with fail
            refine (specEnc x.ts x.beta a3 n3 c3 B x.hops _ (r3.mk MX hB1 (.inr (Nat.le_refl _))) (Nat.le_trans hB1 MX.size) hs3).mono ?_
            rintro e w2 ⟨hv, m2⟩
            rw [HX.out] at hv
            subst hv
            go_wp2_with fail
            go_ret
            exact ⟨retB HE.out.symm, M0.trans (hM.trans (MX.trans m2))⟩
          · have HE := Lib.hid (allTo_go hS.out (HV.out.trans he))
            have HX := Lib.hid he
            clear he
            go_wp2_with fail
            refine (specInYes _ _ _ _ hkd.1 hkd.2).mono ?_
            rintro e w1 ⟨rfl, rfl⟩
            go_wp2_with fail
            refine (specEnc x.ts x.beta a3 n3 c3 B x.hops _ (r3.mk MX hB1 (.inr (Nat.le_refl _))) (Nat.le_trans hB1 MX.size) hs3).mono ?_
            rintro e w2 ⟨hv, m2⟩
            rw [HX.out] at hv
            subst hv
            go_wp2_with fail
            go_roundw
            case rel => exact ⟨rfl, k + 1, by omega, by go_num, HE.out, (hM.trans (MX.trans m2))⟩
            case measure => simp [intOf]; omega
        · replace HV := Lib.hid (HV.out.trans (if_neg hkd))
          have hko : x.kind < 1 ∨ 4 < x.kind := by omega
          have HK := Lib.hid hko
          clear hkd hko
          have HE := Lib.hid (show encPathB zs n = false by rw [HR.out]; exact allTo_stop HV.out n hlt)
          go_wp2_with fail
          refine (specInNo _ _ _ _ HK.out).mono ?_
          rintro e w1 ⟨rfl, rfl⟩
          go_wp2_with fail
          go_ret
          exact ⟨retB HE.out.symm, M0.trans (hM.trans MX)⟩
      · obtain rfl : k = n := by omega
        go_wp2_with fail
        go_ret
        exact ⟨retB (by rw [HR.out, hS.out]), hM'⟩
  · have HR := Lib.hid (show encPathB zs n = false from if_neg h3)
    have h3' : 3 < (n : Int) := by omega
    go_enter Try.func143, Try.ntmps143
    go_wp2_with fail
    go_ret
    exact ⟨retB HR.out.symm, M0⟩

set_option maxRecDepth 100000 in
set_option maxHeartbeats 4000000 in
theorem implEncPath (a : Option Addr) (n c B : Nat) (zs : List TPathPart) (w : World) (h : HasPathPart w B a n zs) (hB : B ≤ w.heap.size) (hn : szPathPart zs n ≤ 1048576) :
    Calls Try.prog 147 #[.agg #[.slice a n c]] w fun e w' => e = .returned (.bool (encPathB zs n)) ∧ Mk0 w w' := by
  have hn0 : n ≤ 1048576 := Nat.le_trans (szPathPart_n zs n) hn
  have M0 := Mk.alloc w (Obj.cells #[Value.slice a n c] 67)
  by_cases h3 : n ≤ 3
  · have HR := Lib.hid (show encPathB zs n = allTo encPartB zs n from if_pos h3)
    have h3' : (n : Int) ≤ 3 := by omega
    go_enter Try.func147, Try.ntmps147
    go_wp2_with fail
    go_loopw [2, 12] (fun r i wr => r = .bool false ∧ ∃ k : Nat, k ≤ n ∧ i = .int .i64 k ∧ Hid (allTo encPartB zs k = true) ∧ Mk0 (w.alloc (Obj.cells #[Value.slice a n c] 67)) wr) (fun _ i _ => n - (intOf i).toNat)
    case atStart => exact ⟨rfl, 0, Nat.zero_le _, rfl, rfl, Mk.refl _ _ _⟩
    case round =>
      obtain ⟨rfl, k, hk, rfl, hS, hM⟩ := hrel
      have hM' := M0.trans hM
      have k0 : (w.alloc (Obj.cells #[Value.slice a n c] 67)).cell? ⟨w.heap.size, 0, none⟩ = some (.slice a n c) := by simp [go_sem]
      replace k0 := hM.cellAt k0
      have y0 := World.block_lt_of_cell? _ _ k0
      simp only at y0
      by_cases hlt : k < n
      · obtain ⟨b, off, x, rfl, hb, hx, a3, n3, c3, d0, d1, d2, d3, r3, m3, t3, z3⟩ := HasPathPart.at _ _ _ _ _ _ (h.mk hM' hB (.inr (Nat.le_refl _))) hlt
        have hs3 : n3 ≤ 1048576 := by have HS := szPathPart_at zs hlt; rw [← hx.out] at HS; unfold sePathPart at HS; have := r3.1; omega
        have hB1 := Nat.le_trans hB hM'.size
        have hbr := World.block_lt_of_cell? _ _ d0
        simp only at hbr
        have MX := Mk.alloc wr (Obj.cells #[Value.int .i64 x.kind, Value.int .i64 x.ts, Value.int .i64 x.beta, Value.slice a3 n3 c3] 119)
        have MY := hM'.trans MX
        have j0 : (wr.alloc (Obj.cells #[Value.int .i64 x.kind, Value.int .i64 x.ts, Value.int .i64 x.beta, Value.slice a3 n3 c3] 119)).cell? ⟨wr.heap.size, 0, none⟩ = some (.int .i64 x.kind) := by rw [World.cell?_alloc_at _ _ _ _ rfl]; rfl
        have j1 : (wr.alloc (Obj.cells #[Value.int .i64 x.kind, Value.int .i64 x.ts, Value.int .i64 x.beta, Value.slice a3 n3 c3] 119)).cell? ⟨wr.heap.size, 1, none⟩ = some (.int .i64 x.ts) := by rw [World.cell?_alloc_at _ _ _ _ rfl]; rfl
        have j2 : (wr.alloc (Obj.cells #[Value.int .i64 x.kind, Value.int .i64 x.ts, Value.int .i64 x.beta, Value.slice a3 n3 c3] 119)).cell? ⟨wr.heap.size, 2, none⟩ = some (.int .i64 x.beta) := by rw [World.cell?_alloc_at _ _ _ _ rfl]; rfl
        have j3 : (wr.alloc (Obj.cells #[Value.int .i64 x.kind, Value.int .i64 x.ts, Value.int .i64 x.beta, Value.slice a3 n3 c3] 119)).cell? ⟨wr.heap.size, 3, none⟩ = some (.slice a3 n3 c3) := by rw [World.cell?_alloc_at _ _ _ _ rfl]; rfl
        have HV := Lib.hid (show encPartB (zs.getD k default) = if 1 ≤ x.kind ∧ x.kind ≤ 4 then encB x.ts x.beta x.hops n3 else false by rw [← hx.out]; unfold encPartB; rw [r3.1])
        by_cases hkd : 1 ≤ x.kind ∧ x.kind ≤ 4
        · replace HV := Lib.hid (HV.out.trans (if_pos hkd))
          cases he : encB x.ts x.beta x.hops n3
          · have HE := Lib.hid (show encPathB zs n = false by rw [HR.out]; exact allTo_stop (HV.out.trans he) n hlt)
            have HX := Lib.hid he
            clear he
            go_wp2_with fail
            refine (implPKYes _ _ hkd.1 hkd.2).mono ?_
            rintro e w1 ⟨rfl, m1⟩
            replace j0 := m1.cellAt j0
            replace j1 := m1.cellAt j1
            replace j2 := m1.cellAt j2
            replace j3 := m1.cellAt j3
            have MW := MX.trans m1
            have y1 := World.block_lt_of_cell? _ _ j0
            simp only at y1
            go_wp2_with fail
            refine (implSegOf _ _ _ _ _ _ _).mono ?_
            rintro e w2 ⟨rfl, m2⟩
            have MW2 := MW.trans m2
            go_wp2_with fail
            refine (implEnc x.ts x.beta a3 n3 c3 B x.hops _ (r3.mk MW2 hB1 (.inr (Nat.le_refl _))) (Nat.le_trans hB1 MW2.size) hs3).mono ?_
            rintro e w3 ⟨hv, m3⟩
            rw [HX.out] at hv
            subst hv
            go_wp2_with fail
            go_ret
            exact ⟨retB HE.out.symm, M0.trans (hM.trans (MW2.trans m3))⟩
          · have HE := Lib.hid (allTo_go hS.out (HV.out.trans he))
            have HX := Lib.hid he
            clear he
            go_wp2_with fail
            refine (implPKYes _ _ hkd.1 hkd.2).mono ?_
            rintro e w1 ⟨rfl, m1⟩
            replace j0 := m1.cellAt j0
            replace j1 := m1.cellAt j1
            replace j2 := m1.cellAt j2
            replace j3 := m1.cellAt j3
            have MW := MX.trans m1
            have y1 := World.block_lt_of_cell? _ _ j0
            simp only at y1
            go_wp2_with fail
            refine (implSegOf _ _ _ _ _ _ _).mono ?_
            rintro e w2 ⟨rfl, m2⟩
            have MW2 := MW.trans m2
            go_wp2_with fail
            refine (implEnc x.ts x.beta a3 n3 c3 B x.hops _ (r3.mk MW2 hB1 (.inr (Nat.le_refl _))) (Nat.le_trans hB1 MW2.size) hs3).mono ?_
            rintro e w3 ⟨hv, m3⟩
            rw [HX.out] at hv
            subst hv
            go_wp2_with fail
            go_roundw
            case rel => exact ⟨rfl, k + 1, by omega, by go_num, HE.out, (hM.trans (MW2.trans m3))⟩
            case measure => simp [intOf]; omega
        · replace HV := Lib.hid (HV.out.trans (if_neg hkd))
          have hko : x.kind < 1 ∨ 4 < x.kind := by omega
          have HK := Lib.hid hko
          clear hkd hko
          have HE := Lib.hid (show encPathB zs n = false by rw [HR.out]; exact allTo_stop HV.out n hlt)
          go_wp2_with fail
          refine (implPKNo _ _ HK.out).mono ?_
          rintro e w1 ⟨rfl, m1⟩
          go_wp2_with fail
          go_ret
          exact ⟨retB HE.out.symm, M0.trans (hM.trans (MX.trans m1))⟩
      · obtain rfl : k = n := by omega
        go_wp2_with fail
        go_ret
        exact ⟨retB (by rw [HR.out, hS.out]), hM'⟩
  · have HR := Lib.hid (show encPathB zs n = false from if_neg h3)
    have h3' : 3 < (n : Int) := by omega
    go_enter Try.func147, Try.ntmps147
    go_wp2_with fail
    go_ret
    exact ⟨retB HR.out.symm, M0⟩

end Go.Proofs.Ytpfjjfbheliinaa
