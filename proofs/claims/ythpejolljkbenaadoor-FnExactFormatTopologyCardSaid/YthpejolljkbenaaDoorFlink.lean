
/- FormatLink of both sides. -/
import Derived.Test.YthpejolljkbenaaDoorFas
import Derived.Test.YthpejolljkbenaaDoorInR
import Derived.Test.YthpejolljkbenaaDoorSLink
namespace Go.Proofs.YthpejolljkbenaaDoor
open Go Go.ChangeShapes Go.WideShapes Go.ChangeAt Go.RowKit
set_option linter.unusedVariables false
def signT (k : Int) : ByteArray := if k = 1 then ⟨#[61]⟩ else if k = 2 then ⟨#[62]⟩ else if k = 3 then ⟨#[126]⟩ else ⟨#[63]⟩
theorem signT_size (k : Int) : (signT k).size ≤ 1 := by
  unfold signT
  split
  · exact Nat.le_refl 1
  · split
    · exact Nat.le_refl 1
    · split
      · exact Nat.le_refl 1
      · exact Nat.le_refl 1
def linkT (zs : List TAS) (n0 : Nat) (zl : List TLink) (n1 : Nat) (i : Int) : ByteArray := if 0 ≤ i ∧ i < (n1 : Int) then ifT zs n0 (zl.getD i.toNat default).a (zl.getD i.toNat default).ai ++ signT (zl.getD i.toNat default).kind ++ ifT zs n0 (zl.getD i.toNat default).b (zl.getD i.toNat default).bi else ⟨#[]⟩
theorem link_in {zl : List TLink} {n q : Nat} (hl : zl.length = n) (hq : q < n) (hz : ∀ y ∈ zl, TLink.fits y) {y : TLink} (hy : y = zl.getD q default) : TLink.fits y := by
  subst hy
  refine hz _ ?_
  rw [List.getD_eq_getElem?_getD, List.getElem?_eq_getElem (by omega)]
  exact List.getElem_mem _
set_option maxRecDepth 100000 in
set_option maxHeartbeats 4000000 in
theorem implSign (k : Int) (w : World) : Calls Tryd.prog 61 #[.int .i64 k] w fun e w' => e = .returned (.string (signT k)) ∧ w = w' := by
  by_cases h1 : k = 1
  · subst h1
    go_enter Tryd.func61, Tryd.ntmps61
    go_wp2
    go_ret
    exact ⟨rfl, rfl⟩
  · by_cases h2 : k = 2
    · subst h2
      go_enter Tryd.func61, Tryd.ntmps61
      go_wp2
      go_ret
      exact ⟨rfl, rfl⟩
    · by_cases h3 : k = 3
      · subst h3
        go_enter Tryd.func61, Tryd.ntmps61
        go_wp2
        go_ret
        exact ⟨rfl, rfl⟩
      · have n1 : (k == 1) = false := by simpa using h1
        have n2 : (k == 2) = false := by simpa using h2
        have n3 : (k == 3) = false := by simpa using h3
        go_enter Tryd.func61, Tryd.ntmps61
        go_wp2
        go_ret
        exact ⟨congrArg (fun t => Ending.returned (Value.string t)) (show ⟨#[63]⟩ = signT k by unfold signT; rw [if_neg h1, if_neg h2, if_neg h3]), rfl⟩

set_option maxRecDepth 100000 in
set_option maxHeartbeats 4000000 in
theorem specFLink (a0 a1 : Option Addr) (n0 c0 n1 c1 B : Nat) (zs : List TAS) (zl : List TLink) (i : Int) (w : World) (h : HasAS w B a0 n0 zs) (hB : B ≤ w.heap.size) (hn0 : n0 ≤ 1048576) (hz : ∀ y ∈ zs, TAS.fits y) (hl : HasLink w B a1 n1 zl) (hn1 : n1 ≤ 1048576) (hzl : ∀ y ∈ zl, TLink.fits y) :
    Calls Tryd.prog 29 #[.agg #[.slice a0 n0 c0, .slice a1 n1 c1], .int .i64 i] w fun e w' => e = .returned (.string (linkT zs n0 zl n1 i)) ∧ Mk0 w w' := by
  have M0 := Mk.alloc w (Obj.cells #[Value.slice a0 n0 c0, Value.slice a1 n1 c1] 31)
  have k0 : (w.alloc (Obj.cells #[Value.slice a0 n0 c0, Value.slice a1 n1 c1] 31)).cell? ⟨w.heap.size, 0, none⟩ = some (.slice a0 n0 c0) := by simp [go_sem]
  have k1 : (w.alloc (Obj.cells #[Value.slice a0 n0 c0, Value.slice a1 n1 c1] 31)).cell? ⟨w.heap.size, 1, none⟩ = some (.slice a1 n1 c1) := by simp [go_sem]
  by_cases hi : 0 ≤ i ∧ i < (n1 : Int)
  · obtain ⟨q, rfl⟩ : ∃ q : Nat, i = (q : Int) := ⟨i.toNat, by omega⟩
    have hqn : q < n1 := by omega
    obtain ⟨b, off, x, rfl, hb, hx, d0, d1, d2, d3, d4⟩ := HasLink.at _ _ _ _ _ _ hl hqn
    have hbr := World.block_lt_of_cell? _ _ d0
    simp only at hbr
    obtain ⟨fa, fai, fb, fbi, _⟩ := link_in hl.1 hqn hzl hx.out
    replace fa := i64_of fa
    replace fai := i64_of fai
    replace fb := i64_of fb
    replace fbi := i64_of fbi
    have HR := Lib.hid (show linkT zs n0 zl n1 (q : Int) = ifT zs n0 x.a x.ai ++ signT x.kind ++ ifT zs n0 x.b x.bi by unfold linkT; rw [if_pos hi, hx.out]; rfl)
    have ad0 := add_ok (ifT zs n0 x.a x.ai) (signT x.kind) (p := 65) (q := 1) (ifT_size h.1 hz fa.1 fa.2 fai.1 fai.2) (signT_size x.kind) (by decide)
    have ad1 := add_ok (ifT zs n0 x.a x.ai ++ signT x.kind) (ifT zs n0 x.b x.bi) (p := 66) (q := 65) (size_app (p := 65) (q := 1) (ifT_size h.1 hz fa.1 fa.2 fai.1 fai.2) (signT_size x.kind)) (ifT_size h.1 hz fb.1 fb.2 fbi.1 fbi.2) (by decide)
    have HZ := Lib.hid hz
    clear hz hzl
    replace d0 := M0.cellAt d0
    replace d1 := M0.cellAt d1
    replace d2 := M0.cellAt d2
    replace d3 := M0.cellAt d3
    replace d4 := M0.cellAt d4
    have i1 : (0 : Int) ≤ (q : Int) := by omega
    have i2 : (q : Int) < (n1 : Int) := by omega
    have i3 : (q : Int) ≤ (n1 : Int) - 1 := by omega
    by_cases h1 : x.kind = 1
    · have e1 : (x.kind == 1) = true := by simpa using h1
      have HS := Lib.hid (show signT x.kind = ⟨#[61]⟩ by unfold signT; rw [if_pos h1])
      rw [HS.out] at ad0 ad1
      clear h1
      go_enter Tryd.func29, Tryd.ntmps29
      go_wp2_with fail
      refine (specInYes (q : Int) 0 ((n1 : Int) - 1) _ i1 i3).mono ?_
      rintro e w' ⟨rfl, rfl⟩
      generalize w.alloc (Obj.cells #[Value.slice a0 n0 c0, Value.slice (some ⟨b, off, none⟩) n1 c1] 31) = wB at *
      have MX := Mk.alloc wB (Obj.cells #[Value.int .i64 x.a, Value.int .i64 x.ai, Value.int .i64 x.b, Value.int .i64 x.bi, Value.int .i64 x.kind] 103)
      have y0 : (wB.alloc (Obj.cells #[Value.int .i64 x.a, Value.int .i64 x.ai, Value.int .i64 x.b, Value.int .i64 x.bi, Value.int .i64 x.kind] 103)).cell? ⟨wB.heap.size, 0, none⟩ = some (.int .i64 x.a) := by simp [go_sem]
      have y1 : (wB.alloc (Obj.cells #[Value.int .i64 x.a, Value.int .i64 x.ai, Value.int .i64 x.b, Value.int .i64 x.bi, Value.int .i64 x.kind] 103)).cell? ⟨wB.heap.size, 1, none⟩ = some (.int .i64 x.ai) := by simp [go_sem]
      have y2 : (wB.alloc (Obj.cells #[Value.int .i64 x.a, Value.int .i64 x.ai, Value.int .i64 x.b, Value.int .i64 x.bi, Value.int .i64 x.kind] 103)).cell? ⟨wB.heap.size, 2, none⟩ = some (.int .i64 x.b) := by simp [go_sem]
      have y3 : (wB.alloc (Obj.cells #[Value.int .i64 x.a, Value.int .i64 x.ai, Value.int .i64 x.b, Value.int .i64 x.bi, Value.int .i64 x.kind] 103)).cell? ⟨wB.heap.size, 3, none⟩ = some (.int .i64 x.bi) := by simp [go_sem]
      have y4 : (wB.alloc (Obj.cells #[Value.int .i64 x.a, Value.int .i64 x.ai, Value.int .i64 x.b, Value.int .i64 x.bi, Value.int .i64 x.kind] 103)).cell? ⟨wB.heap.size, 4, none⟩ = some (.int .i64 x.kind) := by simp [go_sem]
      go_wp2_with fail
      replace k0 := MX.cellAt k0
      replace k1 := MX.cellAt k1
      have MB := M0.trans MX
      refine wp_region_wk (fun w' => Mk0 (wB.alloc (Obj.cells #[Value.int .i64 x.a, Value.int .i64 x.ai, Value.int .i64 x.b, Value.int .i64 x.bi, Value.int .i64 x.kind] 103)) w' ∧ w'.cell? ⟨w.heap.size, 0, none⟩ = some (.slice a0 n0 c0) ∧ w'.cell? ⟨w.heap.size, 1, none⟩ = some (.slice (some ⟨b, off, none⟩) n1 c1) ∧ w'.cell? ⟨wB.heap.size, 0, none⟩ = some (.int .i64 x.a) ∧ w'.cell? ⟨wB.heap.size, 1, none⟩ = some (.int .i64 x.ai) ∧ w'.cell? ⟨wB.heap.size, 2, none⟩ = some (.int .i64 x.b) ∧ w'.cell? ⟨wB.heap.size, 3, none⟩ = some (.int .i64 x.bi) ∧ w'.cell? ⟨wB.heap.size, 4, none⟩ = some (.int .i64 x.kind)) (by kernel_rfl) (by kernel_rfl) (⟨Mk.drew1 _, k0, k1, y0, y1, y2, y3, y4⟩) ?_
      change Wk _ _ _ _ 16 0 _
      first | (refine Wk.skip (m := 15) (k := 0) rfl (by rfl) ?_) | (refine Wk.step (m := 15) (k := 0) (v := _) rfl (by rfl) (fun wv hS => by obtain ⟨s0, s1, s2, s3, s4, s5, s6, s7⟩ := hS; go_simp; try with_reducible rfl) ?_)
      try simp only [Act.put, List.getElem_toArray, List.getElem_cons_zero, List.setIfInBounds_toArray, List.set_cons_zero, List.set_cons_succ]
      first | (refine Wk.skip (m := 14) (k := 1) rfl (by rfl) ?_) | (refine Wk.step (m := 14) (k := 1) (v := _) rfl (by rfl) (fun wv hS => by obtain ⟨s0, s1, s2, s3, s4, s5, s6, s7⟩ := hS; go_simp; try with_reducible rfl) ?_)
      try simp only [Act.put, List.getElem_toArray, List.getElem_cons_succ, List.getElem_cons_zero, List.setIfInBounds_toArray, List.set_cons_zero, List.set_cons_succ]
      first | (refine Wk.skip (m := 13) (k := 2) rfl (by rfl) ?_) | (refine Wk.step (m := 13) (k := 2) (v := _) rfl (by rfl) (fun wv hS => by obtain ⟨s0, s1, s2, s3, s4, s5, s6, s7⟩ := hS; go_simp; try with_reducible rfl) ?_)
      try simp only [Act.put, List.getElem_toArray, List.getElem_cons_succ, List.getElem_cons_zero, List.setIfInBounds_toArray, List.set_cons_zero, List.set_cons_succ]
      first | (refine Wk.skip (m := 12) (k := 3) rfl (by rfl) ?_) | (refine Wk.step (m := 12) (k := 3) (v := _) rfl (by rfl) (fun wv hS => by obtain ⟨s0, s1, s2, s3, s4, s5, s6, s7⟩ := hS; go_simp; try with_reducible rfl) ?_)
      try simp only [Act.put, List.getElem_toArray, List.getElem_cons_succ, List.getElem_cons_zero, List.setIfInBounds_toArray, List.set_cons_zero, List.set_cons_succ]
      first | (refine Wk.skip (m := 11) (k := 4) rfl (by rfl) ?_) | (refine Wk.step (m := 11) (k := 4) (v := _) rfl (by rfl) (fun wv hS => by obtain ⟨s0, s1, s2, s3, s4, s5, s6, s7⟩ := hS; go_simp; try with_reducible rfl) ?_)
      try simp only [Act.put, List.getElem_toArray, List.getElem_cons_succ, List.getElem_cons_zero, List.setIfInBounds_toArray, List.set_cons_zero, List.set_cons_succ]
      refine Wk.call (m := 10) (k := 5) (v := .string (ifT zs n0 x.a x.ai)) _ _ rfl (by rfl) (fun wv hS => by obtain ⟨s0, s1, s2, s3, s4, s5, s6, s7⟩ := hS; go_simp; first | done | exact ⟨rfl, rfl⟩ | with_reducible rfl) (fun wv hS => ?_) ?_; · obtain ⟨s0, s1, s2, s3, s4, s5, s6, s7⟩ := hS; refine (specFIf a0 (some ⟨b, off, none⟩) n0 c0 n1 c1 B zs x.a x.ai wv (h.mk (MB.trans s0) hB (.inr (Nat.le_refl _))) (Nat.le_trans hB (MB.trans s0).size) hn0 HZ.out fa.1 fa.2 fai.1 fai.2).mono ?_; rintro e w' ⟨he, mm⟩; exact ⟨he, s0.trans mm, mm.cellAt s1, mm.cellAt s2, mm.cellAt s3, mm.cellAt s4, mm.cellAt s5, mm.cellAt s6, mm.cellAt s7⟩
      try simp only [Act.put, List.getElem_toArray, List.getElem_cons_succ, List.getElem_cons_zero, List.setIfInBounds_toArray, List.set_cons_zero, List.set_cons_succ]
      first | (refine Wk.skip (m := 9) (k := 6) rfl (by rfl) ?_) | (refine Wk.step (m := 9) (k := 6) (v := _) rfl (by rfl) (fun wv hS => by obtain ⟨s0, s1, s2, s3, s4, s5, s6, s7⟩ := hS; go_simp; try with_reducible rfl) ?_)
      try simp only [Act.put, List.getElem_toArray, List.getElem_cons_succ, List.getElem_cons_zero, List.setIfInBounds_toArray, List.set_cons_zero, List.set_cons_succ]
      first | (refine Wk.skip (m := 8) (k := 7) rfl (by rfl) ?_) | (refine Wk.step (m := 8) (k := 7) (v := _) rfl (by rfl) (fun wv hS => by obtain ⟨s0, s1, s2, s3, s4, s5, s6, s7⟩ := hS; go_simp; try with_reducible rfl) ?_)
      try simp only [Act.put, List.getElem_toArray, List.getElem_cons_succ, List.getElem_cons_zero, List.setIfInBounds_toArray, List.set_cons_zero, List.set_cons_succ]
      first | (refine Wk.skip (m := 7) (k := 8) rfl (by rfl) ?_) | (refine Wk.step (m := 7) (k := 8) (v := _) rfl (by rfl) (fun wv hS => by obtain ⟨s0, s1, s2, s3, s4, s5, s6, s7⟩ := hS; go_simp; try with_reducible rfl) ?_)
      try simp only [Act.put, List.getElem_toArray, List.getElem_cons_succ, List.getElem_cons_zero, List.setIfInBounds_toArray, List.set_cons_zero, List.set_cons_succ]
      first | (refine Wk.skip (m := 6) (k := 9) rfl (by rfl) ?_) | (refine Wk.step (m := 6) (k := 9) (v := _) rfl (by rfl) (fun wv hS => by obtain ⟨s0, s1, s2, s3, s4, s5, s6, s7⟩ := hS; go_simp; try with_reducible rfl) ?_)
      try simp only [Act.put, List.getElem_toArray, List.getElem_cons_succ, List.getElem_cons_zero, List.setIfInBounds_toArray, List.set_cons_zero, List.set_cons_succ]
      first | (refine Wk.skip (m := 5) (k := 10) rfl (by rfl) ?_) | (refine Wk.step (m := 5) (k := 10) (v := _) rfl (by rfl) (fun wv hS => by obtain ⟨s0, s1, s2, s3, s4, s5, s6, s7⟩ := hS; go_simp; try with_reducible rfl) ?_)
      try simp only [Act.put, List.getElem_toArray, List.getElem_cons_succ, List.getElem_cons_zero, List.setIfInBounds_toArray, List.set_cons_zero, List.set_cons_succ]
      first | (refine Wk.skip (m := 4) (k := 11) rfl (by rfl) ?_) | (refine Wk.step (m := 4) (k := 11) (v := _) rfl (by rfl) (fun wv hS => by obtain ⟨s0, s1, s2, s3, s4, s5, s6, s7⟩ := hS; go_simp; try with_reducible rfl) ?_)
      try simp only [Act.put, List.getElem_toArray, List.getElem_cons_succ, List.getElem_cons_zero, List.setIfInBounds_toArray, List.set_cons_zero, List.set_cons_succ]
      first | (refine Wk.skip (m := 3) (k := 12) rfl (by rfl) ?_) | (refine Wk.step (m := 3) (k := 12) (v := _) rfl (by rfl) (fun wv hS => by obtain ⟨s0, s1, s2, s3, s4, s5, s6, s7⟩ := hS; go_simp; try with_reducible rfl) ?_)
      try simp only [Act.put, List.getElem_toArray, List.getElem_cons_succ, List.getElem_cons_zero, List.setIfInBounds_toArray, List.set_cons_zero, List.set_cons_succ]
      refine Wk.call (m := 2) (k := 13) (v := .string (ifT zs n0 x.b x.bi)) _ _ rfl (by rfl) (fun wv hS => by obtain ⟨s0, s1, s2, s3, s4, s5, s6, s7⟩ := hS; go_simp; first | done | exact ⟨rfl, rfl⟩ | with_reducible rfl) (fun wv hS => ?_) ?_; · obtain ⟨s0, s1, s2, s3, s4, s5, s6, s7⟩ := hS; refine (specFIf a0 (some ⟨b, off, none⟩) n0 c0 n1 c1 B zs x.b x.bi wv (h.mk (MB.trans s0) hB (.inr (Nat.le_refl _))) (Nat.le_trans hB (MB.trans s0).size) hn0 HZ.out fb.1 fb.2 fbi.1 fbi.2).mono ?_; rintro e w' ⟨he, mm⟩; exact ⟨he, s0.trans mm, mm.cellAt s1, mm.cellAt s2, mm.cellAt s3, mm.cellAt s4, mm.cellAt s5, mm.cellAt s6, mm.cellAt s7⟩
      try simp only [Act.put, List.getElem_toArray, List.getElem_cons_succ, List.getElem_cons_zero, List.setIfInBounds_toArray, List.set_cons_zero, List.set_cons_succ]
      first | (refine Wk.skip (m := 1) (k := 14) rfl (by rfl) ?_) | (refine Wk.step (m := 1) (k := 14) (v := _) rfl (by rfl) (fun wv hS => by obtain ⟨s0, s1, s2, s3, s4, s5, s6, s7⟩ := hS; go_simp; try with_reducible rfl) ?_)
      try simp only [Act.put, List.getElem_toArray, List.getElem_cons_succ, List.getElem_cons_zero, List.setIfInBounds_toArray, List.set_cons_zero, List.set_cons_succ]
      first | (refine Wk.skip (m := 0) (k := 15) rfl (by rfl) ?_) | (refine Wk.step (m := 0) (k := 15) (v := _) rfl (by rfl) (fun wv hS => by obtain ⟨s0, s1, s2, s3, s4, s5, s6, s7⟩ := hS; go_simp; try with_reducible rfl) ?_)
      try simp only [Act.put, List.getElem_toArray, List.getElem_cons_succ, List.getElem_cons_zero, List.setIfInBounds_toArray, List.set_cons_zero, List.set_cons_succ]
      refine Wk.done fun wE hE => ?_
      clear k0 k1 y0 y1 y2 y3 y4
      obtain ⟨mE, k0, k1, y0, y1, y2, y3, y4⟩ := hE
      go_wp2_with fail
      go_ret
      exact ⟨retT (by rw [HR.out, HS.out]), MB.trans mE⟩
    · by_cases h2 : x.kind = 2
      · have e1 : (x.kind == 1) = false := by simpa using h1
        have e2 : (x.kind == 2) = true := by simpa using h2
        have HS := Lib.hid (show signT x.kind = ⟨#[62]⟩ by unfold signT; rw [if_neg h1, if_pos h2])
        rw [HS.out] at ad0 ad1
        clear h1 h2
        go_enter Tryd.func29, Tryd.ntmps29
        go_wp2_with fail
        refine (specInYes (q : Int) 0 ((n1 : Int) - 1) _ i1 i3).mono ?_
        rintro e w' ⟨rfl, rfl⟩
        generalize w.alloc (Obj.cells #[Value.slice a0 n0 c0, Value.slice (some ⟨b, off, none⟩) n1 c1] 31) = wB at *
        have MX := Mk.alloc wB (Obj.cells #[Value.int .i64 x.a, Value.int .i64 x.ai, Value.int .i64 x.b, Value.int .i64 x.bi, Value.int .i64 x.kind] 103)
        have y0 : (wB.alloc (Obj.cells #[Value.int .i64 x.a, Value.int .i64 x.ai, Value.int .i64 x.b, Value.int .i64 x.bi, Value.int .i64 x.kind] 103)).cell? ⟨wB.heap.size, 0, none⟩ = some (.int .i64 x.a) := by simp [go_sem]
        have y1 : (wB.alloc (Obj.cells #[Value.int .i64 x.a, Value.int .i64 x.ai, Value.int .i64 x.b, Value.int .i64 x.bi, Value.int .i64 x.kind] 103)).cell? ⟨wB.heap.size, 1, none⟩ = some (.int .i64 x.ai) := by simp [go_sem]
        have y2 : (wB.alloc (Obj.cells #[Value.int .i64 x.a, Value.int .i64 x.ai, Value.int .i64 x.b, Value.int .i64 x.bi, Value.int .i64 x.kind] 103)).cell? ⟨wB.heap.size, 2, none⟩ = some (.int .i64 x.b) := by simp [go_sem]
        have y3 : (wB.alloc (Obj.cells #[Value.int .i64 x.a, Value.int .i64 x.ai, Value.int .i64 x.b, Value.int .i64 x.bi, Value.int .i64 x.kind] 103)).cell? ⟨wB.heap.size, 3, none⟩ = some (.int .i64 x.bi) := by simp [go_sem]
        have y4 : (wB.alloc (Obj.cells #[Value.int .i64 x.a, Value.int .i64 x.ai, Value.int .i64 x.b, Value.int .i64 x.bi, Value.int .i64 x.kind] 103)).cell? ⟨wB.heap.size, 4, none⟩ = some (.int .i64 x.kind) := by simp [go_sem]
        go_wp2_with fail
        replace k0 := MX.cellAt k0
        replace k1 := MX.cellAt k1
        have MB := M0.trans MX
        refine wp_region_wk (fun w' => Mk0 (wB.alloc (Obj.cells #[Value.int .i64 x.a, Value.int .i64 x.ai, Value.int .i64 x.b, Value.int .i64 x.bi, Value.int .i64 x.kind] 103)) w' ∧ w'.cell? ⟨w.heap.size, 0, none⟩ = some (.slice a0 n0 c0) ∧ w'.cell? ⟨w.heap.size, 1, none⟩ = some (.slice (some ⟨b, off, none⟩) n1 c1) ∧ w'.cell? ⟨wB.heap.size, 0, none⟩ = some (.int .i64 x.a) ∧ w'.cell? ⟨wB.heap.size, 1, none⟩ = some (.int .i64 x.ai) ∧ w'.cell? ⟨wB.heap.size, 2, none⟩ = some (.int .i64 x.b) ∧ w'.cell? ⟨wB.heap.size, 3, none⟩ = some (.int .i64 x.bi) ∧ w'.cell? ⟨wB.heap.size, 4, none⟩ = some (.int .i64 x.kind)) (by kernel_rfl) (by kernel_rfl) (⟨Mk.drew1 _, k0, k1, y0, y1, y2, y3, y4⟩) ?_
        change Wk _ _ _ _ 16 0 _
        first | (refine Wk.skip (m := 15) (k := 0) rfl (by rfl) ?_) | (refine Wk.step (m := 15) (k := 0) (v := _) rfl (by rfl) (fun wv hS => by obtain ⟨s0, s1, s2, s3, s4, s5, s6, s7⟩ := hS; go_simp; try with_reducible rfl) ?_)
        try simp only [Act.put, List.getElem_toArray, List.getElem_cons_zero, List.setIfInBounds_toArray, List.set_cons_zero, List.set_cons_succ]
        first | (refine Wk.skip (m := 14) (k := 1) rfl (by rfl) ?_) | (refine Wk.step (m := 14) (k := 1) (v := _) rfl (by rfl) (fun wv hS => by obtain ⟨s0, s1, s2, s3, s4, s5, s6, s7⟩ := hS; go_simp; try with_reducible rfl) ?_)
        try simp only [Act.put, List.getElem_toArray, List.getElem_cons_succ, List.getElem_cons_zero, List.setIfInBounds_toArray, List.set_cons_zero, List.set_cons_succ]
        first | (refine Wk.skip (m := 13) (k := 2) rfl (by rfl) ?_) | (refine Wk.step (m := 13) (k := 2) (v := _) rfl (by rfl) (fun wv hS => by obtain ⟨s0, s1, s2, s3, s4, s5, s6, s7⟩ := hS; go_simp; try with_reducible rfl) ?_)
        try simp only [Act.put, List.getElem_toArray, List.getElem_cons_succ, List.getElem_cons_zero, List.setIfInBounds_toArray, List.set_cons_zero, List.set_cons_succ]
        first | (refine Wk.skip (m := 12) (k := 3) rfl (by rfl) ?_) | (refine Wk.step (m := 12) (k := 3) (v := _) rfl (by rfl) (fun wv hS => by obtain ⟨s0, s1, s2, s3, s4, s5, s6, s7⟩ := hS; go_simp; try with_reducible rfl) ?_)
        try simp only [Act.put, List.getElem_toArray, List.getElem_cons_succ, List.getElem_cons_zero, List.setIfInBounds_toArray, List.set_cons_zero, List.set_cons_succ]
        first | (refine Wk.skip (m := 11) (k := 4) rfl (by rfl) ?_) | (refine Wk.step (m := 11) (k := 4) (v := _) rfl (by rfl) (fun wv hS => by obtain ⟨s0, s1, s2, s3, s4, s5, s6, s7⟩ := hS; go_simp; try with_reducible rfl) ?_)
        try simp only [Act.put, List.getElem_toArray, List.getElem_cons_succ, List.getElem_cons_zero, List.setIfInBounds_toArray, List.set_cons_zero, List.set_cons_succ]
        refine Wk.call (m := 10) (k := 5) (v := .string (ifT zs n0 x.a x.ai)) _ _ rfl (by rfl) (fun wv hS => by obtain ⟨s0, s1, s2, s3, s4, s5, s6, s7⟩ := hS; go_simp; first | done | exact ⟨rfl, rfl⟩ | with_reducible rfl) (fun wv hS => ?_) ?_; · obtain ⟨s0, s1, s2, s3, s4, s5, s6, s7⟩ := hS; refine (specFIf a0 (some ⟨b, off, none⟩) n0 c0 n1 c1 B zs x.a x.ai wv (h.mk (MB.trans s0) hB (.inr (Nat.le_refl _))) (Nat.le_trans hB (MB.trans s0).size) hn0 HZ.out fa.1 fa.2 fai.1 fai.2).mono ?_; rintro e w' ⟨he, mm⟩; exact ⟨he, s0.trans mm, mm.cellAt s1, mm.cellAt s2, mm.cellAt s3, mm.cellAt s4, mm.cellAt s5, mm.cellAt s6, mm.cellAt s7⟩
        try simp only [Act.put, List.getElem_toArray, List.getElem_cons_succ, List.getElem_cons_zero, List.setIfInBounds_toArray, List.set_cons_zero, List.set_cons_succ]
        first | (refine Wk.skip (m := 9) (k := 6) rfl (by rfl) ?_) | (refine Wk.step (m := 9) (k := 6) (v := _) rfl (by rfl) (fun wv hS => by obtain ⟨s0, s1, s2, s3, s4, s5, s6, s7⟩ := hS; go_simp; try with_reducible rfl) ?_)
        try simp only [Act.put, List.getElem_toArray, List.getElem_cons_succ, List.getElem_cons_zero, List.setIfInBounds_toArray, List.set_cons_zero, List.set_cons_succ]
        first | (refine Wk.skip (m := 8) (k := 7) rfl (by rfl) ?_) | (refine Wk.step (m := 8) (k := 7) (v := _) rfl (by rfl) (fun wv hS => by obtain ⟨s0, s1, s2, s3, s4, s5, s6, s7⟩ := hS; go_simp; try with_reducible rfl) ?_)
        try simp only [Act.put, List.getElem_toArray, List.getElem_cons_succ, List.getElem_cons_zero, List.setIfInBounds_toArray, List.set_cons_zero, List.set_cons_succ]
        first | (refine Wk.skip (m := 7) (k := 8) rfl (by rfl) ?_) | (refine Wk.step (m := 7) (k := 8) (v := _) rfl (by rfl) (fun wv hS => by obtain ⟨s0, s1, s2, s3, s4, s5, s6, s7⟩ := hS; go_simp; try with_reducible rfl) ?_)
        try simp only [Act.put, List.getElem_toArray, List.getElem_cons_succ, List.getElem_cons_zero, List.setIfInBounds_toArray, List.set_cons_zero, List.set_cons_succ]
        first | (refine Wk.skip (m := 6) (k := 9) rfl (by rfl) ?_) | (refine Wk.step (m := 6) (k := 9) (v := _) rfl (by rfl) (fun wv hS => by obtain ⟨s0, s1, s2, s3, s4, s5, s6, s7⟩ := hS; go_simp; try with_reducible rfl) ?_)
        try simp only [Act.put, List.getElem_toArray, List.getElem_cons_succ, List.getElem_cons_zero, List.setIfInBounds_toArray, List.set_cons_zero, List.set_cons_succ]
        first | (refine Wk.skip (m := 5) (k := 10) rfl (by rfl) ?_) | (refine Wk.step (m := 5) (k := 10) (v := _) rfl (by rfl) (fun wv hS => by obtain ⟨s0, s1, s2, s3, s4, s5, s6, s7⟩ := hS; go_simp; try with_reducible rfl) ?_)
        try simp only [Act.put, List.getElem_toArray, List.getElem_cons_succ, List.getElem_cons_zero, List.setIfInBounds_toArray, List.set_cons_zero, List.set_cons_succ]
        first | (refine Wk.skip (m := 4) (k := 11) rfl (by rfl) ?_) | (refine Wk.step (m := 4) (k := 11) (v := _) rfl (by rfl) (fun wv hS => by obtain ⟨s0, s1, s2, s3, s4, s5, s6, s7⟩ := hS; go_simp; try with_reducible rfl) ?_)
        try simp only [Act.put, List.getElem_toArray, List.getElem_cons_succ, List.getElem_cons_zero, List.setIfInBounds_toArray, List.set_cons_zero, List.set_cons_succ]
        first | (refine Wk.skip (m := 3) (k := 12) rfl (by rfl) ?_) | (refine Wk.step (m := 3) (k := 12) (v := _) rfl (by rfl) (fun wv hS => by obtain ⟨s0, s1, s2, s3, s4, s5, s6, s7⟩ := hS; go_simp; try with_reducible rfl) ?_)
        try simp only [Act.put, List.getElem_toArray, List.getElem_cons_succ, List.getElem_cons_zero, List.setIfInBounds_toArray, List.set_cons_zero, List.set_cons_succ]
        refine Wk.call (m := 2) (k := 13) (v := .string (ifT zs n0 x.b x.bi)) _ _ rfl (by rfl) (fun wv hS => by obtain ⟨s0, s1, s2, s3, s4, s5, s6, s7⟩ := hS; go_simp; first | done | exact ⟨rfl, rfl⟩ | with_reducible rfl) (fun wv hS => ?_) ?_; · obtain ⟨s0, s1, s2, s3, s4, s5, s6, s7⟩ := hS; refine (specFIf a0 (some ⟨b, off, none⟩) n0 c0 n1 c1 B zs x.b x.bi wv (h.mk (MB.trans s0) hB (.inr (Nat.le_refl _))) (Nat.le_trans hB (MB.trans s0).size) hn0 HZ.out fb.1 fb.2 fbi.1 fbi.2).mono ?_; rintro e w' ⟨he, mm⟩; exact ⟨he, s0.trans mm, mm.cellAt s1, mm.cellAt s2, mm.cellAt s3, mm.cellAt s4, mm.cellAt s5, mm.cellAt s6, mm.cellAt s7⟩
        try simp only [Act.put, List.getElem_toArray, List.getElem_cons_succ, List.getElem_cons_zero, List.setIfInBounds_toArray, List.set_cons_zero, List.set_cons_succ]
        first | (refine Wk.skip (m := 1) (k := 14) rfl (by rfl) ?_) | (refine Wk.step (m := 1) (k := 14) (v := _) rfl (by rfl) (fun wv hS => by obtain ⟨s0, s1, s2, s3, s4, s5, s6, s7⟩ := hS; go_simp; try with_reducible rfl) ?_)
        try simp only [Act.put, List.getElem_toArray, List.getElem_cons_succ, List.getElem_cons_zero, List.setIfInBounds_toArray, List.set_cons_zero, List.set_cons_succ]
        first | (refine Wk.skip (m := 0) (k := 15) rfl (by rfl) ?_) | (refine Wk.step (m := 0) (k := 15) (v := _) rfl (by rfl) (fun wv hS => by obtain ⟨s0, s1, s2, s3, s4, s5, s6, s7⟩ := hS; go_simp; try with_reducible rfl) ?_)
        try simp only [Act.put, List.getElem_toArray, List.getElem_cons_succ, List.getElem_cons_zero, List.setIfInBounds_toArray, List.set_cons_zero, List.set_cons_succ]
        refine Wk.done fun wE hE => ?_
        clear k0 k1 y0 y1 y2 y3 y4
        obtain ⟨mE, k0, k1, y0, y1, y2, y3, y4⟩ := hE
        go_wp2_with fail
        go_ret
        exact ⟨retT (by rw [HR.out, HS.out]), MB.trans mE⟩
      · by_cases h3 : x.kind = 3
        · have e1 : (x.kind == 1) = false := by simpa using h1
          have e2 : (x.kind == 2) = false := by simpa using h2
          have e3 : (x.kind == 3) = true := by simpa using h3
          have HS := Lib.hid (show signT x.kind = ⟨#[126]⟩ by unfold signT; rw [if_neg h1, if_neg h2, if_pos h3])
          rw [HS.out] at ad0 ad1
          clear h1 h2 h3
          go_enter Tryd.func29, Tryd.ntmps29
          go_wp2_with fail
          refine (specInYes (q : Int) 0 ((n1 : Int) - 1) _ i1 i3).mono ?_
          rintro e w' ⟨rfl, rfl⟩
          generalize w.alloc (Obj.cells #[Value.slice a0 n0 c0, Value.slice (some ⟨b, off, none⟩) n1 c1] 31) = wB at *
          have MX := Mk.alloc wB (Obj.cells #[Value.int .i64 x.a, Value.int .i64 x.ai, Value.int .i64 x.b, Value.int .i64 x.bi, Value.int .i64 x.kind] 103)
          have y0 : (wB.alloc (Obj.cells #[Value.int .i64 x.a, Value.int .i64 x.ai, Value.int .i64 x.b, Value.int .i64 x.bi, Value.int .i64 x.kind] 103)).cell? ⟨wB.heap.size, 0, none⟩ = some (.int .i64 x.a) := by simp [go_sem]
          have y1 : (wB.alloc (Obj.cells #[Value.int .i64 x.a, Value.int .i64 x.ai, Value.int .i64 x.b, Value.int .i64 x.bi, Value.int .i64 x.kind] 103)).cell? ⟨wB.heap.size, 1, none⟩ = some (.int .i64 x.ai) := by simp [go_sem]
          have y2 : (wB.alloc (Obj.cells #[Value.int .i64 x.a, Value.int .i64 x.ai, Value.int .i64 x.b, Value.int .i64 x.bi, Value.int .i64 x.kind] 103)).cell? ⟨wB.heap.size, 2, none⟩ = some (.int .i64 x.b) := by simp [go_sem]
          have y3 : (wB.alloc (Obj.cells #[Value.int .i64 x.a, Value.int .i64 x.ai, Value.int .i64 x.b, Value.int .i64 x.bi, Value.int .i64 x.kind] 103)).cell? ⟨wB.heap.size, 3, none⟩ = some (.int .i64 x.bi) := by simp [go_sem]
          have y4 : (wB.alloc (Obj.cells #[Value.int .i64 x.a, Value.int .i64 x.ai, Value.int .i64 x.b, Value.int .i64 x.bi, Value.int .i64 x.kind] 103)).cell? ⟨wB.heap.size, 4, none⟩ = some (.int .i64 x.kind) := by simp [go_sem]
          go_wp2_with fail
          replace k0 := MX.cellAt k0
          replace k1 := MX.cellAt k1
          have MB := M0.trans MX
          refine wp_region_wk (fun w' => Mk0 (wB.alloc (Obj.cells #[Value.int .i64 x.a, Value.int .i64 x.ai, Value.int .i64 x.b, Value.int .i64 x.bi, Value.int .i64 x.kind] 103)) w' ∧ w'.cell? ⟨w.heap.size, 0, none⟩ = some (.slice a0 n0 c0) ∧ w'.cell? ⟨w.heap.size, 1, none⟩ = some (.slice (some ⟨b, off, none⟩) n1 c1) ∧ w'.cell? ⟨wB.heap.size, 0, none⟩ = some (.int .i64 x.a) ∧ w'.cell? ⟨wB.heap.size, 1, none⟩ = some (.int .i64 x.ai) ∧ w'.cell? ⟨wB.heap.size, 2, none⟩ = some (.int .i64 x.b) ∧ w'.cell? ⟨wB.heap.size, 3, none⟩ = some (.int .i64 x.bi) ∧ w'.cell? ⟨wB.heap.size, 4, none⟩ = some (.int .i64 x.kind)) (by kernel_rfl) (by kernel_rfl) (⟨Mk.drew1 _, k0, k1, y0, y1, y2, y3, y4⟩) ?_
          change Wk _ _ _ _ 16 0 _
          first | (refine Wk.skip (m := 15) (k := 0) rfl (by rfl) ?_) | (refine Wk.step (m := 15) (k := 0) (v := _) rfl (by rfl) (fun wv hS => by obtain ⟨s0, s1, s2, s3, s4, s5, s6, s7⟩ := hS; go_simp; try with_reducible rfl) ?_)
          try simp only [Act.put, List.getElem_toArray, List.getElem_cons_zero, List.setIfInBounds_toArray, List.set_cons_zero, List.set_cons_succ]
          first | (refine Wk.skip (m := 14) (k := 1) rfl (by rfl) ?_) | (refine Wk.step (m := 14) (k := 1) (v := _) rfl (by rfl) (fun wv hS => by obtain ⟨s0, s1, s2, s3, s4, s5, s6, s7⟩ := hS; go_simp; try with_reducible rfl) ?_)
          try simp only [Act.put, List.getElem_toArray, List.getElem_cons_succ, List.getElem_cons_zero, List.setIfInBounds_toArray, List.set_cons_zero, List.set_cons_succ]
          first | (refine Wk.skip (m := 13) (k := 2) rfl (by rfl) ?_) | (refine Wk.step (m := 13) (k := 2) (v := _) rfl (by rfl) (fun wv hS => by obtain ⟨s0, s1, s2, s3, s4, s5, s6, s7⟩ := hS; go_simp; try with_reducible rfl) ?_)
          try simp only [Act.put, List.getElem_toArray, List.getElem_cons_succ, List.getElem_cons_zero, List.setIfInBounds_toArray, List.set_cons_zero, List.set_cons_succ]
          first | (refine Wk.skip (m := 12) (k := 3) rfl (by rfl) ?_) | (refine Wk.step (m := 12) (k := 3) (v := _) rfl (by rfl) (fun wv hS => by obtain ⟨s0, s1, s2, s3, s4, s5, s6, s7⟩ := hS; go_simp; try with_reducible rfl) ?_)
          try simp only [Act.put, List.getElem_toArray, List.getElem_cons_succ, List.getElem_cons_zero, List.setIfInBounds_toArray, List.set_cons_zero, List.set_cons_succ]
          first | (refine Wk.skip (m := 11) (k := 4) rfl (by rfl) ?_) | (refine Wk.step (m := 11) (k := 4) (v := _) rfl (by rfl) (fun wv hS => by obtain ⟨s0, s1, s2, s3, s4, s5, s6, s7⟩ := hS; go_simp; try with_reducible rfl) ?_)
          try simp only [Act.put, List.getElem_toArray, List.getElem_cons_succ, List.getElem_cons_zero, List.setIfInBounds_toArray, List.set_cons_zero, List.set_cons_succ]
          refine Wk.call (m := 10) (k := 5) (v := .string (ifT zs n0 x.a x.ai)) _ _ rfl (by rfl) (fun wv hS => by obtain ⟨s0, s1, s2, s3, s4, s5, s6, s7⟩ := hS; go_simp; first | done | exact ⟨rfl, rfl⟩ | with_reducible rfl) (fun wv hS => ?_) ?_; · obtain ⟨s0, s1, s2, s3, s4, s5, s6, s7⟩ := hS; refine (specFIf a0 (some ⟨b, off, none⟩) n0 c0 n1 c1 B zs x.a x.ai wv (h.mk (MB.trans s0) hB (.inr (Nat.le_refl _))) (Nat.le_trans hB (MB.trans s0).size) hn0 HZ.out fa.1 fa.2 fai.1 fai.2).mono ?_; rintro e w' ⟨he, mm⟩; exact ⟨he, s0.trans mm, mm.cellAt s1, mm.cellAt s2, mm.cellAt s3, mm.cellAt s4, mm.cellAt s5, mm.cellAt s6, mm.cellAt s7⟩
          try simp only [Act.put, List.getElem_toArray, List.getElem_cons_succ, List.getElem_cons_zero, List.setIfInBounds_toArray, List.set_cons_zero, List.set_cons_succ]
          first | (refine Wk.skip (m := 9) (k := 6) rfl (by rfl) ?_) | (refine Wk.step (m := 9) (k := 6) (v := _) rfl (by rfl) (fun wv hS => by obtain ⟨s0, s1, s2, s3, s4, s5, s6, s7⟩ := hS; go_simp; try with_reducible rfl) ?_)
          try simp only [Act.put, List.getElem_toArray, List.getElem_cons_succ, List.getElem_cons_zero, List.setIfInBounds_toArray, List.set_cons_zero, List.set_cons_succ]
          first | (refine Wk.skip (m := 8) (k := 7) rfl (by rfl) ?_) | (refine Wk.step (m := 8) (k := 7) (v := _) rfl (by rfl) (fun wv hS => by obtain ⟨s0, s1, s2, s3, s4, s5, s6, s7⟩ := hS; go_simp; try with_reducible rfl) ?_)
          try simp only [Act.put, List.getElem_toArray, List.getElem_cons_succ, List.getElem_cons_zero, List.setIfInBounds_toArray, List.set_cons_zero, List.set_cons_succ]
          first | (refine Wk.skip (m := 7) (k := 8) rfl (by rfl) ?_) | (refine Wk.step (m := 7) (k := 8) (v := _) rfl (by rfl) (fun wv hS => by obtain ⟨s0, s1, s2, s3, s4, s5, s6, s7⟩ := hS; go_simp; try with_reducible rfl) ?_)
          try simp only [Act.put, List.getElem_toArray, List.getElem_cons_succ, List.getElem_cons_zero, List.setIfInBounds_toArray, List.set_cons_zero, List.set_cons_succ]
          first | (refine Wk.skip (m := 6) (k := 9) rfl (by rfl) ?_) | (refine Wk.step (m := 6) (k := 9) (v := _) rfl (by rfl) (fun wv hS => by obtain ⟨s0, s1, s2, s3, s4, s5, s6, s7⟩ := hS; go_simp; try with_reducible rfl) ?_)
          try simp only [Act.put, List.getElem_toArray, List.getElem_cons_succ, List.getElem_cons_zero, List.setIfInBounds_toArray, List.set_cons_zero, List.set_cons_succ]
          first | (refine Wk.skip (m := 5) (k := 10) rfl (by rfl) ?_) | (refine Wk.step (m := 5) (k := 10) (v := _) rfl (by rfl) (fun wv hS => by obtain ⟨s0, s1, s2, s3, s4, s5, s6, s7⟩ := hS; go_simp; try with_reducible rfl) ?_)
          try simp only [Act.put, List.getElem_toArray, List.getElem_cons_succ, List.getElem_cons_zero, List.setIfInBounds_toArray, List.set_cons_zero, List.set_cons_succ]
          first | (refine Wk.skip (m := 4) (k := 11) rfl (by rfl) ?_) | (refine Wk.step (m := 4) (k := 11) (v := _) rfl (by rfl) (fun wv hS => by obtain ⟨s0, s1, s2, s3, s4, s5, s6, s7⟩ := hS; go_simp; try with_reducible rfl) ?_)
          try simp only [Act.put, List.getElem_toArray, List.getElem_cons_succ, List.getElem_cons_zero, List.setIfInBounds_toArray, List.set_cons_zero, List.set_cons_succ]
          first | (refine Wk.skip (m := 3) (k := 12) rfl (by rfl) ?_) | (refine Wk.step (m := 3) (k := 12) (v := _) rfl (by rfl) (fun wv hS => by obtain ⟨s0, s1, s2, s3, s4, s5, s6, s7⟩ := hS; go_simp; try with_reducible rfl) ?_)
          try simp only [Act.put, List.getElem_toArray, List.getElem_cons_succ, List.getElem_cons_zero, List.setIfInBounds_toArray, List.set_cons_zero, List.set_cons_succ]
          refine Wk.call (m := 2) (k := 13) (v := .string (ifT zs n0 x.b x.bi)) _ _ rfl (by rfl) (fun wv hS => by obtain ⟨s0, s1, s2, s3, s4, s5, s6, s7⟩ := hS; go_simp; first | done | exact ⟨rfl, rfl⟩ | with_reducible rfl) (fun wv hS => ?_) ?_; · obtain ⟨s0, s1, s2, s3, s4, s5, s6, s7⟩ := hS; refine (specFIf a0 (some ⟨b, off, none⟩) n0 c0 n1 c1 B zs x.b x.bi wv (h.mk (MB.trans s0) hB (.inr (Nat.le_refl _))) (Nat.le_trans hB (MB.trans s0).size) hn0 HZ.out fb.1 fb.2 fbi.1 fbi.2).mono ?_; rintro e w' ⟨he, mm⟩; exact ⟨he, s0.trans mm, mm.cellAt s1, mm.cellAt s2, mm.cellAt s3, mm.cellAt s4, mm.cellAt s5, mm.cellAt s6, mm.cellAt s7⟩
          try simp only [Act.put, List.getElem_toArray, List.getElem_cons_succ, List.getElem_cons_zero, List.setIfInBounds_toArray, List.set_cons_zero, List.set_cons_succ]
          first | (refine Wk.skip (m := 1) (k := 14) rfl (by rfl) ?_) | (refine Wk.step (m := 1) (k := 14) (v := _) rfl (by rfl) (fun wv hS => by obtain ⟨s0, s1, s2, s3, s4, s5, s6, s7⟩ := hS; go_simp; try with_reducible rfl) ?_)
          try simp only [Act.put, List.getElem_toArray, List.getElem_cons_succ, List.getElem_cons_zero, List.setIfInBounds_toArray, List.set_cons_zero, List.set_cons_succ]
          first | (refine Wk.skip (m := 0) (k := 15) rfl (by rfl) ?_) | (refine Wk.step (m := 0) (k := 15) (v := _) rfl (by rfl) (fun wv hS => by obtain ⟨s0, s1, s2, s3, s4, s5, s6, s7⟩ := hS; go_simp; try with_reducible rfl) ?_)
          try simp only [Act.put, List.getElem_toArray, List.getElem_cons_succ, List.getElem_cons_zero, List.setIfInBounds_toArray, List.set_cons_zero, List.set_cons_succ]
          refine Wk.done fun wE hE => ?_
          clear k0 k1 y0 y1 y2 y3 y4
          obtain ⟨mE, k0, k1, y0, y1, y2, y3, y4⟩ := hE
          go_wp2_with fail
          go_ret
          exact ⟨retT (by rw [HR.out, HS.out]), MB.trans mE⟩
        · have e1 : (x.kind == 1) = false := by simpa using h1
          have e2 : (x.kind == 2) = false := by simpa using h2
          have e3 : (x.kind == 3) = false := by simpa using h3
          have HS := Lib.hid (show signT x.kind = ⟨#[63]⟩ by unfold signT; rw [if_neg h1, if_neg h2, if_neg h3])
          rw [HS.out] at ad0 ad1
          clear h1 h2 h3
          go_enter Tryd.func29, Tryd.ntmps29
          go_wp2_with fail
          refine (specInYes (q : Int) 0 ((n1 : Int) - 1) _ i1 i3).mono ?_
          rintro e w' ⟨rfl, rfl⟩
          generalize w.alloc (Obj.cells #[Value.slice a0 n0 c0, Value.slice (some ⟨b, off, none⟩) n1 c1] 31) = wB at *
          have MX := Mk.alloc wB (Obj.cells #[Value.int .i64 x.a, Value.int .i64 x.ai, Value.int .i64 x.b, Value.int .i64 x.bi, Value.int .i64 x.kind] 103)
          have y0 : (wB.alloc (Obj.cells #[Value.int .i64 x.a, Value.int .i64 x.ai, Value.int .i64 x.b, Value.int .i64 x.bi, Value.int .i64 x.kind] 103)).cell? ⟨wB.heap.size, 0, none⟩ = some (.int .i64 x.a) := by simp [go_sem]
          have y1 : (wB.alloc (Obj.cells #[Value.int .i64 x.a, Value.int .i64 x.ai, Value.int .i64 x.b, Value.int .i64 x.bi, Value.int .i64 x.kind] 103)).cell? ⟨wB.heap.size, 1, none⟩ = some (.int .i64 x.ai) := by simp [go_sem]
          have y2 : (wB.alloc (Obj.cells #[Value.int .i64 x.a, Value.int .i64 x.ai, Value.int .i64 x.b, Value.int .i64 x.bi, Value.int .i64 x.kind] 103)).cell? ⟨wB.heap.size, 2, none⟩ = some (.int .i64 x.b) := by simp [go_sem]
          have y3 : (wB.alloc (Obj.cells #[Value.int .i64 x.a, Value.int .i64 x.ai, Value.int .i64 x.b, Value.int .i64 x.bi, Value.int .i64 x.kind] 103)).cell? ⟨wB.heap.size, 3, none⟩ = some (.int .i64 x.bi) := by simp [go_sem]
          have y4 : (wB.alloc (Obj.cells #[Value.int .i64 x.a, Value.int .i64 x.ai, Value.int .i64 x.b, Value.int .i64 x.bi, Value.int .i64 x.kind] 103)).cell? ⟨wB.heap.size, 4, none⟩ = some (.int .i64 x.kind) := by simp [go_sem]
          go_wp2_with fail
          replace k0 := MX.cellAt k0
          replace k1 := MX.cellAt k1
          have MB := M0.trans MX
          refine wp_region_wk (fun w' => Mk0 (wB.alloc (Obj.cells #[Value.int .i64 x.a, Value.int .i64 x.ai, Value.int .i64 x.b, Value.int .i64 x.bi, Value.int .i64 x.kind] 103)) w' ∧ w'.cell? ⟨w.heap.size, 0, none⟩ = some (.slice a0 n0 c0) ∧ w'.cell? ⟨w.heap.size, 1, none⟩ = some (.slice (some ⟨b, off, none⟩) n1 c1) ∧ w'.cell? ⟨wB.heap.size, 0, none⟩ = some (.int .i64 x.a) ∧ w'.cell? ⟨wB.heap.size, 1, none⟩ = some (.int .i64 x.ai) ∧ w'.cell? ⟨wB.heap.size, 2, none⟩ = some (.int .i64 x.b) ∧ w'.cell? ⟨wB.heap.size, 3, none⟩ = some (.int .i64 x.bi) ∧ w'.cell? ⟨wB.heap.size, 4, none⟩ = some (.int .i64 x.kind)) (by kernel_rfl) (by kernel_rfl) (⟨Mk.drew1 _, k0, k1, y0, y1, y2, y3, y4⟩) ?_
          change Wk _ _ _ _ 16 0 _
          first | (refine Wk.skip (m := 15) (k := 0) rfl (by rfl) ?_) | (refine Wk.step (m := 15) (k := 0) (v := _) rfl (by rfl) (fun wv hS => by obtain ⟨s0, s1, s2, s3, s4, s5, s6, s7⟩ := hS; go_simp; try with_reducible rfl) ?_)
          try simp only [Act.put, List.getElem_toArray, List.getElem_cons_zero, List.setIfInBounds_toArray, List.set_cons_zero, List.set_cons_succ]
          first | (refine Wk.skip (m := 14) (k := 1) rfl (by rfl) ?_) | (refine Wk.step (m := 14) (k := 1) (v := _) rfl (by rfl) (fun wv hS => by obtain ⟨s0, s1, s2, s3, s4, s5, s6, s7⟩ := hS; go_simp; try with_reducible rfl) ?_)
          try simp only [Act.put, List.getElem_toArray, List.getElem_cons_succ, List.getElem_cons_zero, List.setIfInBounds_toArray, List.set_cons_zero, List.set_cons_succ]
          first | (refine Wk.skip (m := 13) (k := 2) rfl (by rfl) ?_) | (refine Wk.step (m := 13) (k := 2) (v := _) rfl (by rfl) (fun wv hS => by obtain ⟨s0, s1, s2, s3, s4, s5, s6, s7⟩ := hS; go_simp; try with_reducible rfl) ?_)
          try simp only [Act.put, List.getElem_toArray, List.getElem_cons_succ, List.getElem_cons_zero, List.setIfInBounds_toArray, List.set_cons_zero, List.set_cons_succ]
          first | (refine Wk.skip (m := 12) (k := 3) rfl (by rfl) ?_) | (refine Wk.step (m := 12) (k := 3) (v := _) rfl (by rfl) (fun wv hS => by obtain ⟨s0, s1, s2, s3, s4, s5, s6, s7⟩ := hS; go_simp; try with_reducible rfl) ?_)
          try simp only [Act.put, List.getElem_toArray, List.getElem_cons_succ, List.getElem_cons_zero, List.setIfInBounds_toArray, List.set_cons_zero, List.set_cons_succ]
          first | (refine Wk.skip (m := 11) (k := 4) rfl (by rfl) ?_) | (refine Wk.step (m := 11) (k := 4) (v := _) rfl (by rfl) (fun wv hS => by obtain ⟨s0, s1, s2, s3, s4, s5, s6, s7⟩ := hS; go_simp; try with_reducible rfl) ?_)
          try simp only [Act.put, List.getElem_toArray, List.getElem_cons_succ, List.getElem_cons_zero, List.setIfInBounds_toArray, List.set_cons_zero, List.set_cons_succ]
          refine Wk.call (m := 10) (k := 5) (v := .string (ifT zs n0 x.a x.ai)) _ _ rfl (by rfl) (fun wv hS => by obtain ⟨s0, s1, s2, s3, s4, s5, s6, s7⟩ := hS; go_simp; first | done | exact ⟨rfl, rfl⟩ | with_reducible rfl) (fun wv hS => ?_) ?_; · obtain ⟨s0, s1, s2, s3, s4, s5, s6, s7⟩ := hS; refine (specFIf a0 (some ⟨b, off, none⟩) n0 c0 n1 c1 B zs x.a x.ai wv (h.mk (MB.trans s0) hB (.inr (Nat.le_refl _))) (Nat.le_trans hB (MB.trans s0).size) hn0 HZ.out fa.1 fa.2 fai.1 fai.2).mono ?_; rintro e w' ⟨he, mm⟩; exact ⟨he, s0.trans mm, mm.cellAt s1, mm.cellAt s2, mm.cellAt s3, mm.cellAt s4, mm.cellAt s5, mm.cellAt s6, mm.cellAt s7⟩
          try simp only [Act.put, List.getElem_toArray, List.getElem_cons_succ, List.getElem_cons_zero, List.setIfInBounds_toArray, List.set_cons_zero, List.set_cons_succ]
          first | (refine Wk.skip (m := 9) (k := 6) rfl (by rfl) ?_) | (refine Wk.step (m := 9) (k := 6) (v := _) rfl (by rfl) (fun wv hS => by obtain ⟨s0, s1, s2, s3, s4, s5, s6, s7⟩ := hS; go_simp; try with_reducible rfl) ?_)
          try simp only [Act.put, List.getElem_toArray, List.getElem_cons_succ, List.getElem_cons_zero, List.setIfInBounds_toArray, List.set_cons_zero, List.set_cons_succ]
          first | (refine Wk.skip (m := 8) (k := 7) rfl (by rfl) ?_) | (refine Wk.step (m := 8) (k := 7) (v := _) rfl (by rfl) (fun wv hS => by obtain ⟨s0, s1, s2, s3, s4, s5, s6, s7⟩ := hS; go_simp; try with_reducible rfl) ?_)
          try simp only [Act.put, List.getElem_toArray, List.getElem_cons_succ, List.getElem_cons_zero, List.setIfInBounds_toArray, List.set_cons_zero, List.set_cons_succ]
          first | (refine Wk.skip (m := 7) (k := 8) rfl (by rfl) ?_) | (refine Wk.step (m := 7) (k := 8) (v := _) rfl (by rfl) (fun wv hS => by obtain ⟨s0, s1, s2, s3, s4, s5, s6, s7⟩ := hS; go_simp; try with_reducible rfl) ?_)
          try simp only [Act.put, List.getElem_toArray, List.getElem_cons_succ, List.getElem_cons_zero, List.setIfInBounds_toArray, List.set_cons_zero, List.set_cons_succ]
          first | (refine Wk.skip (m := 6) (k := 9) rfl (by rfl) ?_) | (refine Wk.step (m := 6) (k := 9) (v := _) rfl (by rfl) (fun wv hS => by obtain ⟨s0, s1, s2, s3, s4, s5, s6, s7⟩ := hS; go_simp; try with_reducible rfl) ?_)
          try simp only [Act.put, List.getElem_toArray, List.getElem_cons_succ, List.getElem_cons_zero, List.setIfInBounds_toArray, List.set_cons_zero, List.set_cons_succ]
          first | (refine Wk.skip (m := 5) (k := 10) rfl (by rfl) ?_) | (refine Wk.step (m := 5) (k := 10) (v := _) rfl (by rfl) (fun wv hS => by obtain ⟨s0, s1, s2, s3, s4, s5, s6, s7⟩ := hS; go_simp; try with_reducible rfl) ?_)
          try simp only [Act.put, List.getElem_toArray, List.getElem_cons_succ, List.getElem_cons_zero, List.setIfInBounds_toArray, List.set_cons_zero, List.set_cons_succ]
          first | (refine Wk.skip (m := 4) (k := 11) rfl (by rfl) ?_) | (refine Wk.step (m := 4) (k := 11) (v := _) rfl (by rfl) (fun wv hS => by obtain ⟨s0, s1, s2, s3, s4, s5, s6, s7⟩ := hS; go_simp; try with_reducible rfl) ?_)
          try simp only [Act.put, List.getElem_toArray, List.getElem_cons_succ, List.getElem_cons_zero, List.setIfInBounds_toArray, List.set_cons_zero, List.set_cons_succ]
          first | (refine Wk.skip (m := 3) (k := 12) rfl (by rfl) ?_) | (refine Wk.step (m := 3) (k := 12) (v := _) rfl (by rfl) (fun wv hS => by obtain ⟨s0, s1, s2, s3, s4, s5, s6, s7⟩ := hS; go_simp; try with_reducible rfl) ?_)
          try simp only [Act.put, List.getElem_toArray, List.getElem_cons_succ, List.getElem_cons_zero, List.setIfInBounds_toArray, List.set_cons_zero, List.set_cons_succ]
          refine Wk.call (m := 2) (k := 13) (v := .string (ifT zs n0 x.b x.bi)) _ _ rfl (by rfl) (fun wv hS => by obtain ⟨s0, s1, s2, s3, s4, s5, s6, s7⟩ := hS; go_simp; first | done | exact ⟨rfl, rfl⟩ | with_reducible rfl) (fun wv hS => ?_) ?_; · obtain ⟨s0, s1, s2, s3, s4, s5, s6, s7⟩ := hS; refine (specFIf a0 (some ⟨b, off, none⟩) n0 c0 n1 c1 B zs x.b x.bi wv (h.mk (MB.trans s0) hB (.inr (Nat.le_refl _))) (Nat.le_trans hB (MB.trans s0).size) hn0 HZ.out fb.1 fb.2 fbi.1 fbi.2).mono ?_; rintro e w' ⟨he, mm⟩; exact ⟨he, s0.trans mm, mm.cellAt s1, mm.cellAt s2, mm.cellAt s3, mm.cellAt s4, mm.cellAt s5, mm.cellAt s6, mm.cellAt s7⟩
          try simp only [Act.put, List.getElem_toArray, List.getElem_cons_succ, List.getElem_cons_zero, List.setIfInBounds_toArray, List.set_cons_zero, List.set_cons_succ]
          first | (refine Wk.skip (m := 1) (k := 14) rfl (by rfl) ?_) | (refine Wk.step (m := 1) (k := 14) (v := _) rfl (by rfl) (fun wv hS => by obtain ⟨s0, s1, s2, s3, s4, s5, s6, s7⟩ := hS; go_simp; try with_reducible rfl) ?_)
          try simp only [Act.put, List.getElem_toArray, List.getElem_cons_succ, List.getElem_cons_zero, List.setIfInBounds_toArray, List.set_cons_zero, List.set_cons_succ]
          first | (refine Wk.skip (m := 0) (k := 15) rfl (by rfl) ?_) | (refine Wk.step (m := 0) (k := 15) (v := _) rfl (by rfl) (fun wv hS => by obtain ⟨s0, s1, s2, s3, s4, s5, s6, s7⟩ := hS; go_simp; try with_reducible rfl) ?_)
          try simp only [Act.put, List.getElem_toArray, List.getElem_cons_succ, List.getElem_cons_zero, List.setIfInBounds_toArray, List.set_cons_zero, List.set_cons_succ]
          refine Wk.done fun wE hE => ?_
          clear k0 k1 y0 y1 y2 y3 y4
          obtain ⟨mE, k0, k1, y0, y1, y2, y3, y4⟩ := hE
          go_wp2_with fail
          go_ret
          exact ⟨retT (by rw [HR.out, HS.out]), MB.trans mE⟩
  · have HR := Lib.hid (show linkT zs n0 zl n1 i = ⟨#[]⟩ from if_neg hi)
    go_enter Tryd.func29, Tryd.ntmps29
    go_wp2_with fail
    refine (specInNo i 0 ((n1 : Int) - 1) _ (by omega)).mono ?_
    rintro e w' ⟨rfl, rfl⟩
    go_wp2_with fail
    go_ret
    exact ⟨retT HR.out.symm, M0⟩

set_option maxRecDepth 100000 in
set_option maxHeartbeats 4000000 in
theorem implFLink (a0 a1 : Option Addr) (n0 c0 n1 c1 B : Nat) (zs : List TAS) (zl : List TLink) (i : Int) (w : World) (h : HasAS w B a0 n0 zs) (hB : B ≤ w.heap.size) (hn0 : n0 ≤ 1048576) (hz : ∀ y ∈ zs, TAS.fits y) (hl : HasLink w B a1 n1 zl) (hn1 : n1 ≤ 1048576) (hzl : ∀ y ∈ zl, TLink.fits y) (htab : Lib.TabIs Tryd.prog w "internal/strconv.uint64pow10" .u64 Lib.pow10Tab) :
    Calls Tryd.prog 32 #[.agg #[.slice a0 n0 c0, .slice a1 n1 c1], .int .i64 i] w fun e w' => e = .returned (.string (linkT zs n0 zl n1 i)) ∧ Mk0 w w' := by
  have M0 := Mk.alloc w (Obj.cells #[Value.slice a0 n0 c0, Value.slice a1 n1 c1] 31)
  have k0 : (w.alloc (Obj.cells #[Value.slice a0 n0 c0, Value.slice a1 n1 c1] 31)).cell? ⟨w.heap.size, 0, none⟩ = some (.slice a0 n0 c0) := by simp [go_sem]
  have k1 : (w.alloc (Obj.cells #[Value.slice a0 n0 c0, Value.slice a1 n1 c1] 31)).cell? ⟨w.heap.size, 1, none⟩ = some (.slice a1 n1 c1) := by simp [go_sem]
  by_cases hi : 0 ≤ i ∧ i < (n1 : Int)
  · obtain ⟨q, rfl⟩ : ∃ q : Nat, i = (q : Int) := ⟨i.toNat, by omega⟩
    have hqn : q < n1 := by omega
    obtain ⟨b, off, x, rfl, hb, hx, d0, d1, d2, d3, d4⟩ := HasLink.at _ _ _ _ _ _ hl hqn
    have hbr := World.block_lt_of_cell? _ _ d0
    simp only at hbr
    obtain ⟨fa, fai, fb, fbi, _⟩ := link_in hl.1 hqn hzl hx.out
    replace fa := i64_of fa
    replace fai := i64_of fai
    replace fb := i64_of fb
    replace fbi := i64_of fbi
    have HR := Lib.hid (show linkT zs n0 zl n1 (q : Int) = ifT zs n0 x.a x.ai ++ signT x.kind ++ ifT zs n0 x.b x.bi by unfold linkT; rw [if_pos hi, hx.out]; rfl)
    have ad0 := add_ok (ifT zs n0 x.a x.ai) (signT x.kind) (p := 65) (q := 1) (ifT_size h.1 hz fa.1 fa.2 fai.1 fai.2) (signT_size x.kind) (by decide)
    have ad1 := add_ok (ifT zs n0 x.a x.ai ++ signT x.kind) (ifT zs n0 x.b x.bi) (p := 66) (q := 65) (size_app (p := 65) (q := 1) (ifT_size h.1 hz fa.1 fa.2 fai.1 fai.2) (signT_size x.kind)) (ifT_size h.1 hz fb.1 fb.2 fbi.1 fbi.2) (by decide)
    have HZ := Lib.hid hz
    clear hz hzl
    replace d0 := M0.cellAt d0
    replace d1 := M0.cellAt d1
    replace d2 := M0.cellAt d2
    replace d3 := M0.cellAt d3
    replace d4 := M0.cellAt d4
    have i1 : (0 : Int) ≤ (q : Int) := by omega
    have i2 : (q : Int) < (n1 : Int) := by omega
    have i3 : (q : Int) ≤ (n1 : Int) - 1 := by omega
    go_enter Tryd.func32, Tryd.ntmps32
    go_wp2_with fail
    refine (implInYes (q : Int) 0 ((n1 : Int) - 1) _ i1 i3).mono ?_
    rintro e w' ⟨rfl, rfl⟩
    generalize w.alloc (Obj.cells #[Value.slice a0 n0 c0, Value.slice (some ⟨b, off, none⟩) n1 c1] 31) = wB at *
    have MX := Mk.alloc wB (Obj.cells #[Value.int .i64 x.a, Value.int .i64 x.ai, Value.int .i64 x.b, Value.int .i64 x.bi, Value.int .i64 x.kind] 103)
    have y0 : (wB.alloc (Obj.cells #[Value.int .i64 x.a, Value.int .i64 x.ai, Value.int .i64 x.b, Value.int .i64 x.bi, Value.int .i64 x.kind] 103)).cell? ⟨wB.heap.size, 0, none⟩ = some (.int .i64 x.a) := by simp [go_sem]
    have y1 : (wB.alloc (Obj.cells #[Value.int .i64 x.a, Value.int .i64 x.ai, Value.int .i64 x.b, Value.int .i64 x.bi, Value.int .i64 x.kind] 103)).cell? ⟨wB.heap.size, 1, none⟩ = some (.int .i64 x.ai) := by simp [go_sem]
    have y2 : (wB.alloc (Obj.cells #[Value.int .i64 x.a, Value.int .i64 x.ai, Value.int .i64 x.b, Value.int .i64 x.bi, Value.int .i64 x.kind] 103)).cell? ⟨wB.heap.size, 2, none⟩ = some (.int .i64 x.b) := by simp [go_sem]
    have y3 : (wB.alloc (Obj.cells #[Value.int .i64 x.a, Value.int .i64 x.ai, Value.int .i64 x.b, Value.int .i64 x.bi, Value.int .i64 x.kind] 103)).cell? ⟨wB.heap.size, 3, none⟩ = some (.int .i64 x.bi) := by simp [go_sem]
    have y4 : (wB.alloc (Obj.cells #[Value.int .i64 x.a, Value.int .i64 x.ai, Value.int .i64 x.b, Value.int .i64 x.bi, Value.int .i64 x.kind] 103)).cell? ⟨wB.heap.size, 4, none⟩ = some (.int .i64 x.kind) := by simp [go_sem]
    go_wp2_with fail
    replace k0 := MX.cellAt k0
    replace k1 := MX.cellAt k1
    have MB := M0.trans MX
    refine wp_region_wk (fun w' => Mk0 (wB.alloc (Obj.cells #[Value.int .i64 x.a, Value.int .i64 x.ai, Value.int .i64 x.b, Value.int .i64 x.bi, Value.int .i64 x.kind] 103)) w' ∧ w'.cell? ⟨w.heap.size, 0, none⟩ = some (.slice a0 n0 c0) ∧ w'.cell? ⟨w.heap.size, 1, none⟩ = some (.slice (some ⟨b, off, none⟩) n1 c1) ∧ w'.cell? ⟨wB.heap.size, 0, none⟩ = some (.int .i64 x.a) ∧ w'.cell? ⟨wB.heap.size, 1, none⟩ = some (.int .i64 x.ai) ∧ w'.cell? ⟨wB.heap.size, 2, none⟩ = some (.int .i64 x.b) ∧ w'.cell? ⟨wB.heap.size, 3, none⟩ = some (.int .i64 x.bi) ∧ w'.cell? ⟨wB.heap.size, 4, none⟩ = some (.int .i64 x.kind)) (by kernel_rfl) (by kernel_rfl) (⟨Mk.drew1 _, k0, k1, y0, y1, y2, y3, y4⟩) ?_
    change Wk _ _ _ _ 18 0 _
    first | (refine Wk.skip (m := 17) (k := 0) rfl (by rfl) ?_) | (refine Wk.step (m := 17) (k := 0) (v := _) rfl (by rfl) (fun wv hS => by obtain ⟨s0, s1, s2, s3, s4, s5, s6, s7⟩ := hS; go_simp; try with_reducible rfl) ?_)
    try simp only [Act.put, List.getElem_toArray, List.getElem_cons_zero, List.setIfInBounds_toArray, List.set_cons_zero, List.set_cons_succ]
    first | (refine Wk.skip (m := 16) (k := 1) rfl (by rfl) ?_) | (refine Wk.step (m := 16) (k := 1) (v := _) rfl (by rfl) (fun wv hS => by obtain ⟨s0, s1, s2, s3, s4, s5, s6, s7⟩ := hS; go_simp; try with_reducible rfl) ?_)
    try simp only [Act.put, List.getElem_toArray, List.getElem_cons_succ, List.getElem_cons_zero, List.setIfInBounds_toArray, List.set_cons_zero, List.set_cons_succ]
    first | (refine Wk.skip (m := 15) (k := 2) rfl (by rfl) ?_) | (refine Wk.step (m := 15) (k := 2) (v := _) rfl (by rfl) (fun wv hS => by obtain ⟨s0, s1, s2, s3, s4, s5, s6, s7⟩ := hS; go_simp; try with_reducible rfl) ?_)
    try simp only [Act.put, List.getElem_toArray, List.getElem_cons_succ, List.getElem_cons_zero, List.setIfInBounds_toArray, List.set_cons_zero, List.set_cons_succ]
    first | (refine Wk.skip (m := 14) (k := 3) rfl (by rfl) ?_) | (refine Wk.step (m := 14) (k := 3) (v := _) rfl (by rfl) (fun wv hS => by obtain ⟨s0, s1, s2, s3, s4, s5, s6, s7⟩ := hS; go_simp; try with_reducible rfl) ?_)
    try simp only [Act.put, List.getElem_toArray, List.getElem_cons_succ, List.getElem_cons_zero, List.setIfInBounds_toArray, List.set_cons_zero, List.set_cons_succ]
    first | (refine Wk.skip (m := 13) (k := 4) rfl (by rfl) ?_) | (refine Wk.step (m := 13) (k := 4) (v := _) rfl (by rfl) (fun wv hS => by obtain ⟨s0, s1, s2, s3, s4, s5, s6, s7⟩ := hS; go_simp; try with_reducible rfl) ?_)
    try simp only [Act.put, List.getElem_toArray, List.getElem_cons_succ, List.getElem_cons_zero, List.setIfInBounds_toArray, List.set_cons_zero, List.set_cons_succ]
    refine Wk.call (m := 12) (k := 5) (v := .string (ifT zs n0 x.a x.ai)) _ _ rfl (by rfl) (fun wv hS => by obtain ⟨s0, s1, s2, s3, s4, s5, s6, s7⟩ := hS; go_simp; first | done | exact ⟨rfl, rfl⟩ | with_reducible rfl) (fun wv hS => ?_) ?_; · obtain ⟨s0, s1, s2, s3, s4, s5, s6, s7⟩ := hS; refine (implFIf a0 (some ⟨b, off, none⟩) n0 c0 n1 c1 B zs x.a x.ai wv (h.mk (MB.trans s0) hB (.inr (Nat.le_refl _))) (Nat.le_trans hB (MB.trans s0).size) hn0 HZ.out fa.1 fa.2 fai.1 fai.2 (tab_mk htab (MB.trans s0))).mono ?_; rintro e w' ⟨he, mm⟩; exact ⟨he, s0.trans mm, mm.cellAt s1, mm.cellAt s2, mm.cellAt s3, mm.cellAt s4, mm.cellAt s5, mm.cellAt s6, mm.cellAt s7⟩
    try simp only [Act.put, List.getElem_toArray, List.getElem_cons_succ, List.getElem_cons_zero, List.setIfInBounds_toArray, List.set_cons_zero, List.set_cons_succ]
    first | (refine Wk.skip (m := 11) (k := 6) rfl (by rfl) ?_) | (refine Wk.step (m := 11) (k := 6) (v := _) rfl (by rfl) (fun wv hS => by obtain ⟨s0, s1, s2, s3, s4, s5, s6, s7⟩ := hS; go_simp; try with_reducible rfl) ?_)
    try simp only [Act.put, List.getElem_toArray, List.getElem_cons_succ, List.getElem_cons_zero, List.setIfInBounds_toArray, List.set_cons_zero, List.set_cons_succ]
    first | (refine Wk.skip (m := 10) (k := 7) rfl (by rfl) ?_) | (refine Wk.step (m := 10) (k := 7) (v := _) rfl (by rfl) (fun wv hS => by obtain ⟨s0, s1, s2, s3, s4, s5, s6, s7⟩ := hS; go_simp; try with_reducible rfl) ?_)
    try simp only [Act.put, List.getElem_toArray, List.getElem_cons_succ, List.getElem_cons_zero, List.setIfInBounds_toArray, List.set_cons_zero, List.set_cons_succ]
    refine Wk.call (m := 9) (k := 8) (v := .string (signT x.kind)) _ _ rfl (by rfl) (fun wv hS => by obtain ⟨s0, s1, s2, s3, s4, s5, s6, s7⟩ := hS; go_simp; first | done | exact ⟨rfl, rfl⟩ | with_reducible rfl) (fun wv hS => ?_) ?_; · obtain ⟨s0, s1, s2, s3, s4, s5, s6, s7⟩ := hS; refine (implSign x.kind wv).mono ?_; rintro e w' ⟨he, rfl⟩; exact ⟨he, s0, s1, s2, s3, s4, s5, s6, s7⟩
    try simp only [Act.put, List.getElem_toArray, List.getElem_cons_succ, List.getElem_cons_zero, List.setIfInBounds_toArray, List.set_cons_zero, List.set_cons_succ]
    first | (refine Wk.skip (m := 8) (k := 9) rfl (by rfl) ?_) | (refine Wk.step (m := 8) (k := 9) (v := _) rfl (by rfl) (fun wv hS => by obtain ⟨s0, s1, s2, s3, s4, s5, s6, s7⟩ := hS; go_simp; try with_reducible rfl) ?_)
    try simp only [Act.put, List.getElem_toArray, List.getElem_cons_succ, List.getElem_cons_zero, List.setIfInBounds_toArray, List.set_cons_zero, List.set_cons_succ]
    first | (refine Wk.skip (m := 7) (k := 10) rfl (by rfl) ?_) | (refine Wk.step (m := 7) (k := 10) (v := _) rfl (by rfl) (fun wv hS => by obtain ⟨s0, s1, s2, s3, s4, s5, s6, s7⟩ := hS; go_simp; try with_reducible rfl) ?_)
    try simp only [Act.put, List.getElem_toArray, List.getElem_cons_succ, List.getElem_cons_zero, List.setIfInBounds_toArray, List.set_cons_zero, List.set_cons_succ]
    first | (refine Wk.skip (m := 6) (k := 11) rfl (by rfl) ?_) | (refine Wk.step (m := 6) (k := 11) (v := _) rfl (by rfl) (fun wv hS => by obtain ⟨s0, s1, s2, s3, s4, s5, s6, s7⟩ := hS; go_simp; try with_reducible rfl) ?_)
    try simp only [Act.put, List.getElem_toArray, List.getElem_cons_succ, List.getElem_cons_zero, List.setIfInBounds_toArray, List.set_cons_zero, List.set_cons_succ]
    first | (refine Wk.skip (m := 5) (k := 12) rfl (by rfl) ?_) | (refine Wk.step (m := 5) (k := 12) (v := _) rfl (by rfl) (fun wv hS => by obtain ⟨s0, s1, s2, s3, s4, s5, s6, s7⟩ := hS; go_simp; try with_reducible rfl) ?_)
    try simp only [Act.put, List.getElem_toArray, List.getElem_cons_succ, List.getElem_cons_zero, List.setIfInBounds_toArray, List.set_cons_zero, List.set_cons_succ]
    first | (refine Wk.skip (m := 4) (k := 13) rfl (by rfl) ?_) | (refine Wk.step (m := 4) (k := 13) (v := _) rfl (by rfl) (fun wv hS => by obtain ⟨s0, s1, s2, s3, s4, s5, s6, s7⟩ := hS; go_simp; try with_reducible rfl) ?_)
    try simp only [Act.put, List.getElem_toArray, List.getElem_cons_succ, List.getElem_cons_zero, List.setIfInBounds_toArray, List.set_cons_zero, List.set_cons_succ]
    first | (refine Wk.skip (m := 3) (k := 14) rfl (by rfl) ?_) | (refine Wk.step (m := 3) (k := 14) (v := _) rfl (by rfl) (fun wv hS => by obtain ⟨s0, s1, s2, s3, s4, s5, s6, s7⟩ := hS; go_simp; try with_reducible rfl) ?_)
    try simp only [Act.put, List.getElem_toArray, List.getElem_cons_succ, List.getElem_cons_zero, List.setIfInBounds_toArray, List.set_cons_zero, List.set_cons_succ]
    refine Wk.call (m := 2) (k := 15) (v := .string (ifT zs n0 x.b x.bi)) _ _ rfl (by rfl) (fun wv hS => by obtain ⟨s0, s1, s2, s3, s4, s5, s6, s7⟩ := hS; go_simp; first | done | exact ⟨rfl, rfl⟩ | with_reducible rfl) (fun wv hS => ?_) ?_; · obtain ⟨s0, s1, s2, s3, s4, s5, s6, s7⟩ := hS; refine (implFIf a0 (some ⟨b, off, none⟩) n0 c0 n1 c1 B zs x.b x.bi wv (h.mk (MB.trans s0) hB (.inr (Nat.le_refl _))) (Nat.le_trans hB (MB.trans s0).size) hn0 HZ.out fb.1 fb.2 fbi.1 fbi.2 (tab_mk htab (MB.trans s0))).mono ?_; rintro e w' ⟨he, mm⟩; exact ⟨he, s0.trans mm, mm.cellAt s1, mm.cellAt s2, mm.cellAt s3, mm.cellAt s4, mm.cellAt s5, mm.cellAt s6, mm.cellAt s7⟩
    try simp only [Act.put, List.getElem_toArray, List.getElem_cons_succ, List.getElem_cons_zero, List.setIfInBounds_toArray, List.set_cons_zero, List.set_cons_succ]
    first | (refine Wk.skip (m := 1) (k := 16) rfl (by rfl) ?_) | (refine Wk.step (m := 1) (k := 16) (v := _) rfl (by rfl) (fun wv hS => by obtain ⟨s0, s1, s2, s3, s4, s5, s6, s7⟩ := hS; go_simp; try with_reducible rfl) ?_)
    try simp only [Act.put, List.getElem_toArray, List.getElem_cons_succ, List.getElem_cons_zero, List.setIfInBounds_toArray, List.set_cons_zero, List.set_cons_succ]
    first | (refine Wk.skip (m := 0) (k := 17) rfl (by rfl) ?_) | (refine Wk.step (m := 0) (k := 17) (v := _) rfl (by rfl) (fun wv hS => by obtain ⟨s0, s1, s2, s3, s4, s5, s6, s7⟩ := hS; go_simp; try with_reducible rfl) ?_)
    try simp only [Act.put, List.getElem_toArray, List.getElem_cons_succ, List.getElem_cons_zero, List.setIfInBounds_toArray, List.set_cons_zero, List.set_cons_succ]
    refine Wk.done fun wE hE => ?_
    clear k0 k1 y0 y1 y2 y3 y4
    obtain ⟨mE, k0, k1, y0, y1, y2, y3, y4⟩ := hE
    go_wp2_with fail
    go_ret
    exact ⟨retT HR.out.symm, MB.trans mE⟩
  · have HR := Lib.hid (show linkT zs n0 zl n1 i = ⟨#[]⟩ from if_neg hi)
    go_enter Tryd.func32, Tryd.ntmps32
    go_wp2_with fail
    refine (implInNo i 0 ((n1 : Int) - 1) _ (by omega)).mono ?_
    rintro e w' ⟨rfl, rfl⟩
    go_wp2_with fail
    go_ret
    exact ⟨retT HR.out.symm, M0⟩

end Go.Proofs.YthpejolljkbenaaDoor
