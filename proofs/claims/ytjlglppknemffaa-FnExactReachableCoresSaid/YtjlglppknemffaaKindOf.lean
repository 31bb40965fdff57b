
/- InterfaceKind of both sides. -/
import Derived.Test.YtjlglppknemffaaLkMore
namespace Go.Proofs.Ytjlglppknemffaa
open Go.ChangeShapes Go.WideShapes Go.ChangeAt Go.RowKit
set_option linter.unusedVariables false


theorem kind_cases (k : Int) : ((k == 1) = true ∧ (k == 2) = false ∧ (k == 3) = false) ∨ ((k == 1) = false ∧ (k == 2) = true ∧ (k == 3) = false) ∨ ((k == 1) = false ∧ (k == 2) = false ∧ (k == 3) = true) ∨ ((k == 1) = false ∧ (k == 2) = false ∧ (k == 3) = false) := by
  by_cases h1 : k = 1
  · subst h1; exact .inl ⟨rfl, rfl, rfl⟩
  by_cases h2 : k = 2
  · subst h2; exact .inr (.inl ⟨rfl, rfl, rfl⟩)
  by_cases h3 : k = 3
  · subst h3; exact .inr (.inr (.inl ⟨rfl, rfl, rfl⟩))
  · exact .inr (.inr (.inr ⟨by simpa using h1, by simpa using h2, by simpa using h3⟩))
def kindOf (zs : List TLink) (r d : Int) (n : Nat) : Int :=
  if d = 0 then 5 else if lkIx zs r d n < 0 then 0 else
    if (zs.getD (lkIx zs r d n).toNat default).kind = 1 then 1
    else if (zs.getD (lkIx zs r d n).toNat default).kind = 2 then (if (zs.getD (lkIx zs r d n).toNat default).a = r ∧ (zs.getD (lkIx zs r d n).toNat default).ai = d then 2 else 3)
    else if (zs.getD (lkIx zs r d n).toNat default).kind = 3 then 4 else 0
theorem kindOf_self {zs : List TLink} {r d : Int} {n : Nat} (h : d = 0) : kindOf zs r d n = 5 := by simp [kindOf, h]
theorem kindOf_none {zs : List TLink} {r d : Int} {n : Nat} (h0 : (d == 0) = false) (h : lkIx zs r d n = -1) : kindOf zs r d n = 0 := by
  have : d ≠ 0 := by simpa using h0
  simp [kindOf, h, this]
theorem kindOf_at {zs : List TLink} {r d : Int} {n q : Nat} {x : TLink} (h0 : (d == 0) = false) (h : lkIx zs r d n = (q : Int)) (hx : x = zs.getD q default) :
    kindOf zs r d n = if x.kind = 1 then 1 else if x.kind = 2 then (if x.a = r ∧ x.ai = d then 2 else 3) else if x.kind = 3 then 4 else 0 := by
  subst hx
  have hd : d ≠ 0 := by simpa using h0
  have e : ((q : Nat) : Int).toNat = q := by omega
  unfold kindOf
  rw [h, e, if_neg hd, if_neg (by omega)]

set_option maxRecDepth 100000 in
set_option maxHeartbeats 4000000 in
theorem specKind (a0 a1 : Option Addr) (n0 c0 n1 c1 B : Nat) (zs : List TLink) (r d : Int) (w : World) (h : HasLink w B a1 n1 zs) (hB : B ≤ w.heap.size) (hn : n1 ≤ 1048576) :
    Calls Try.prog 65 #[.agg #[.slice a0 n0 c0, .slice a1 n1 c1], .int .i64 r, .int .i64 d] w fun e w' => e = .returned (.int .i64 (kindOf zs r d n1)) ∧ Mk0 w w' := by
  by_cases hd : d = 0
  · have HR := Lib.hid (kindOf_self (zs := zs) (r := r) (n := n1) hd)
    go_enter Try.func65, Try.ntmps65
    go_wp2_with fail
    go_ret
    exact ⟨retI HR.out.symm, Mk.alloc _ _⟩
  have h0 : (d == 0) = false := by simpa using hd
  clear hd
  rcases lkIx_cases zs r d n1 with hq | ⟨q, hq, hlt⟩
  · go_enter Try.func65, Try.ntmps65
    go_wp2_with fail
    have M0 := Mk.alloc w (Obj.cells #[Value.slice a0 n0 c0, Value.slice a1 n1 c1] 31)
    have k0 : (w.alloc (Obj.cells #[Value.slice a0 n0 c0, Value.slice a1 n1 c1] 31)).cell? ⟨w.heap.size, 1, none⟩ = some (.slice a1 n1 c1) := by simp [go_sem]
    refine (specLinkIx _ _ _ _ _ _ _ zs _ _ _ (h.mk M0 hB (.inr (Nat.le_refl _))) (by rw [World.size_alloc]; omega) hn).mono ?_
    rintro e w1 ⟨he, m1⟩
    rw [hq] at he
    subst he
    have M1 := M0.trans m1
    replace k0 := m1.cellAt k0
    have HQ := Lib.hid hq
    clear hq
    go_wp2_with fail
    go_ret
    exact ⟨retI (kindOf_none h0 HQ.out).symm, M1⟩
  · go_enter Try.func65, Try.ntmps65
    go_wp2_with fail
    have M0 := Mk.alloc w (Obj.cells #[Value.slice a0 n0 c0, Value.slice a1 n1 c1] 31)
    have k0 : (w.alloc (Obj.cells #[Value.slice a0 n0 c0, Value.slice a1 n1 c1] 31)).cell? ⟨w.heap.size, 1, none⟩ = some (.slice a1 n1 c1) := by simp [go_sem]
    refine (specLinkIx _ _ _ _ _ _ _ zs _ _ _ (h.mk M0 hB (.inr (Nat.le_refl _))) (by rw [World.size_alloc]; omega) hn).mono ?_
    rintro e w1 ⟨he, m1⟩
    rw [hq] at he
    subst he
    have M1 := M0.trans m1
    replace k0 := m1.cellAt k0
    have HQ := Lib.hid hq
    clear hq
    obtain ⟨b, off, x, rfl, hb, hx, d0, d1, d2, d3, d4⟩ := HasLink.at _ _ _ _ _ _ (h.mk M1 hB (.inr (Nat.le_refl _))) hlt
    have HR := Lib.hid (kindOf_at h0 HQ.out hx.out)
    rcases kind_cases x.kind with ⟨e1, e2, e3⟩ | ⟨e1, e2, e3⟩ | ⟨e1, e2, e3⟩ | ⟨e1, e2, e3⟩
    · go_wp2_with fail
      go_ret
      exact ⟨retI (HR.out.trans (by simp_all)).symm, M1.new _⟩
    · cases h1 : (x.a == r)
      · go_wp2_with fail
        go_ret
        exact ⟨retI (HR.out.trans (by simp_all)).symm, M1.new _⟩
      · cases h2 : (x.ai == d)
        · go_wp2_with fail
          go_ret
          exact ⟨retI (HR.out.trans (by simp_all)).symm, M1.new _⟩
        · go_wp2_with fail
          go_ret
          exact ⟨retI (HR.out.trans (by simp_all)).symm, M1.new _⟩
    · go_wp2_with fail
      go_ret
      exact ⟨retI (HR.out.trans (by simp_all)).symm, M1.new _⟩
    · go_wp2_with fail
      go_ret
      exact ⟨retI (HR.out.trans (by simp_all)).symm, M1.new _⟩

set_option maxRecDepth 100000 in
set_option maxHeartbeats 4000000 in
theorem implKind (a0 a1 : Option Addr) (n0 c0 n1 c1 B : Nat) (zs : List TLink) (r d : Int) (w : World) (h : HasLink w B a1 n1 zs) (hB : B ≤ w.heap.size) (hn : n1 ≤ 1048576) :
    Calls Try.prog 66 #[.agg #[.slice a0 n0 c0, .slice a1 n1 c1], .int .i64 r, .int .i64 d] w fun e w' => e = .returned (.int .i64 (kindOf zs r d n1)) ∧ Mk0 w w' := by
  by_cases hd : d = 0
  · have HR := Lib.hid (kindOf_self (zs := zs) (r := r) (n := n1) hd)
    go_enter Try.func66, Try.ntmps66
    go_wp2_with fail
    go_ret
    exact ⟨retI HR.out.symm, Mk.alloc _ _⟩
  have h0 : (d == 0) = false := by simpa using hd
  clear hd
  rcases lkIx_cases zs r d n1 with hq | ⟨q, hq, hlt⟩
  · go_enter Try.func66, Try.ntmps66
    go_wp2_with fail
    have M0 := Mk.alloc w (Obj.cells #[Value.slice a0 n0 c0, Value.slice a1 n1 c1] 31)
    have k0 : (w.alloc (Obj.cells #[Value.slice a0 n0 c0, Value.slice a1 n1 c1] 31)).cell? ⟨w.heap.size, 1, none⟩ = some (.slice a1 n1 c1) := by simp [go_sem]
    refine (implLinkIx _ _ _ _ _ _ _ zs _ _ _ (h.mk M0 hB (.inr (Nat.le_refl _))) (by rw [World.size_alloc]; omega) hn).mono ?_
    rintro e w1 ⟨he, m1⟩
    rw [hq] at he
    subst he
    have M1 := M0.trans m1
    replace k0 := m1.cellAt k0
    have HQ := Lib.hid hq
    clear hq
    go_wp2_with fail
    go_ret
    exact ⟨retI (kindOf_none h0 HQ.out).symm, M1⟩
  · go_enter Try.func66, Try.ntmps66
    go_wp2_with fail
    have M0 := Mk.alloc w (Obj.cells #[Value.slice a0 n0 c0, Value.slice a1 n1 c1] 31)
    have k0 : (w.alloc (Obj.cells #[Value.slice a0 n0 c0, Value.slice a1 n1 c1] 31)).cell? ⟨w.heap.size, 1, none⟩ = some (.slice a1 n1 c1) := by simp [go_sem]
    refine (implLinkIx _ _ _ _ _ _ _ zs _ _ _ (h.mk M0 hB (.inr (Nat.le_refl _))) (by rw [World.size_alloc]; omega) hn).mono ?_
    rintro e w1 ⟨he, m1⟩
    rw [hq] at he
    subst he
    have M1 := M0.trans m1
    replace k0 := m1.cellAt k0
    have HQ := Lib.hid hq
    clear hq
    obtain ⟨b, off, x, rfl, hb, hx, d0, d1, d2, d3, d4⟩ := HasLink.at _ _ _ _ _ _ (h.mk M1 hB (.inr (Nat.le_refl _))) hlt
    have HR := Lib.hid (kindOf_at h0 HQ.out hx.out)
    rcases kind_cases x.kind with ⟨e1, e2, e3⟩ | ⟨e1, e2, e3⟩ | ⟨e1, e2, e3⟩ | ⟨e1, e2, e3⟩
    · go_wp2_with fail
      go_ret
      exact ⟨retI (HR.out.trans (by simp_all)).symm, M1.new _⟩
    · cases h1 : (x.a == r)
      · go_wp2_with fail
        refine (portA _ _ _ _ _ _).mono ?_
        rintro e w2 ⟨rfl, m2⟩
        go_wp2_with fail
        go_ret
        exact ⟨retI (HR.out.trans (by simp_all)).symm, (M1.new _).trans m2⟩
      · cases h2 : (x.ai == d)
        · go_wp2_with fail
          refine (portA _ _ _ _ _ _).mono ?_
          rintro e w2 ⟨rfl, m2⟩
          go_wp2_with fail
          go_ret
          exact ⟨retI (HR.out.trans (by simp_all)).symm, (M1.new _).trans m2⟩
        · go_wp2_with fail
          refine (portA _ _ _ _ _ _).mono ?_
          rintro e w2 ⟨rfl, m2⟩
          go_wp2_with fail
          go_ret
          exact ⟨retI (HR.out.trans (by simp_all)).symm, (M1.new _).trans m2⟩
    · go_wp2_with fail
      go_ret
      exact ⟨retI (HR.out.trans (by simp_all)).symm, M1.new _⟩
    · go_wp2_with fail
      go_ret
      exact ⟨retI (HR.out.trans (by simp_all)).symm, M1.new _⟩

end Go.Proofs.Ytjlglppknemffaa
