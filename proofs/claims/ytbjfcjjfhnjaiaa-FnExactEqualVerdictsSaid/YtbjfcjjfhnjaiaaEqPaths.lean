
/- Paths and lists of paths compared, by both sides. -/
import Derived.Test.YtbjfcjjfhnjaiaaEqPart
import Derived.Test.YtbjfcjjfhnjaiaaNPath
import Derived.Test.YtbjfcjjfhnjaiaaRet
import Derived.Deep.RegionWith
import Derived.RegionTactic
namespace Go.Proofs.Ytbjfcjjfhnjaiaa
open Go.ChangeShapes Go.WideShapes Go.ChangeAt Go.RowKit
set_option linter.unusedVariables false
def eqUpTo {α : Type} [Inhabited α] (f : α → α → Bool) (zs zs' : List α) : Nat → Bool
  | 0 => true
  | k + 1 => eqUpTo f zs zs' k && f (zs.getD k default) (zs'.getD k default)
theorem eqUpTo_stop {α : Type} [Inhabited α] {f : α → α → Bool} {zs zs' : List α} {k : Nat} (h : f (zs.getD k default) (zs'.getD k default) = false) : ∀ n, k < n → eqUpTo f zs zs' n = false
  | 0, hk => absurd hk (by omega)
  | n + 1, hk => by
    rw [eqUpTo]
    by_cases e : k = n
    · subst e; rw [h]; simp
    · rw [eqUpTo_stop h n (by omega)]; rfl
theorem eqUpTo_go {α : Type} [Inhabited α] {f : α → α → Bool} {zs zs' : List α} {k : Nat} (h0 : eqUpTo f zs zs' k = true) (h : f (zs.getD k default) (zs'.getD k default) = true) : eqUpTo f zs zs' (k + 1) = true := by
  rw [eqUpTo, h0, h]; rfl
def eqListB {α : Type} [Inhabited α] (f : α → α → Bool) (zs zs' : List α) (n n' : Nat) : Bool := if n = n' then eqUpTo f zs zs' n else false
def eqPartT (x y : TPathPart) : Bool := eqPartB x.kind x.ts x.beta y.kind y.ts y.beta x.hops y.hops x.hops.length y.hops.length
def eqPathT (x y : TPath) : Bool := eqListB eqPartT x.parts y.parts x.parts.length y.parts.length

set_option maxRecDepth 100000 in
set_option maxHeartbeats 4000000 in
theorem specEqPaths (a a' : Option Addr) (n n' c c' B B' : Nat) (zs zs' : List TPathPart) (w : World) (h : HasPathPart w B a n zs) (h' : HasPathPart w B' a' n' zs') (hB : B ≤ w.heap.size) (hB' : B' ≤ w.heap.size) (hn : szPathPart zs n ≤ 1048576) (hn' : szPathPart zs' n' ≤ 1048576) :
    Calls Try.prog 67 #[.agg #[.slice a n c], .agg #[.slice a' n' c']] w fun e w' => e = .returned (.bool (eqListB eqPartT zs zs' n n')) ∧ Mk0 w w' := by
  have hn0 : n ≤ 1048576 := Nat.le_trans (szPathPart_n zs n) hn
  have hn0' : n' ≤ 1048576 := Nat.le_trans (szPathPart_n zs' n') hn'
  have M0 := (Mk.alloc w (Obj.cells #[Value.slice a n c] 30)).new (Obj.cells #[Value.slice a' n' c'] 30)
  by_cases hz : n = n'
  · subst hz
    have HR := Lib.hid (show eqListB eqPartT zs zs' n n = eqUpTo eqPartT zs zs' n from if_pos rfl)
    go_enter Try.func67, Try.ntmps67
    go_wp2_with fail
    go_loopw [4, 5] (fun r i wr => r = .bool false ∧ ∃ k : Nat, k ≤ n ∧ i = .int .i64 k ∧ Hid (eqUpTo eqPartT zs zs' k = true) ∧ Mk0 ((w.alloc (Obj.cells #[Value.slice a n c] 30)).alloc (Obj.cells #[Value.slice a' n c'] 30)) wr) (fun _ i _ => n - (intOf i).toNat)
    case atStart => exact ⟨rfl, 0, Nat.zero_le _, rfl, rfl, Mk.refl _ _ _⟩
    case round =>
      obtain ⟨rfl, k, hk, rfl, hS, hM⟩ := hrel
      have hM' := M0.trans hM
      have k0 : ((w.alloc (Obj.cells #[Value.slice a n c] 30)).alloc (Obj.cells #[Value.slice a' n c'] 30)).cell? ⟨w.heap.size, 0, none⟩ = some (.slice a n c) := by simp [go_sem]
      have k1 : ((w.alloc (Obj.cells #[Value.slice a n c] 30)).alloc (Obj.cells #[Value.slice a' n c'] 30)).cell? ⟨w.heap.size + 1, 0, none⟩ = some (.slice a' n c') := by simp [go_sem]
      replace k0 := hM.cellAt k0
      replace k1 := hM.cellAt k1
      have y0 := World.block_lt_of_cell? _ _ k0
      have y1 := World.block_lt_of_cell? _ _ k1
      simp only at y0 y1
      by_cases hlt : k < n
      · obtain ⟨b, off, x, rfl, hb, hx, a3, n3, c3, d0, d1, d2, d3, r3, m3, t3, z3⟩ := HasPathPart.at _ _ _ _ _ _ (h.mk hM' hB (.inr (Nat.le_refl _))) hlt
        obtain ⟨b', off', y, rfl, hb', hy, a3', n3', c3', s0, s1, s2, s3, r3', m3', t3', z3'⟩ := HasPathPart.at _ _ _ _ _ _ (h'.mk hM' hB' (.inr (Nat.le_refl _))) hlt
        have hS3 : n3 ≤ 1048576 := by have HS := szPathPart_at zs hlt; rw [← hx.out] at HS; unfold sePathPart at HS; have := r3.1; omega
        have hS3' : n3' ≤ 1048576 := by have HS := szPathPart_at zs' hlt; rw [← hy.out] at HS; unfold sePathPart at HS; have := r3'.1; omega
        have hB1 := Nat.le_trans hB hM'.size
        have hB1' := Nat.le_trans hB' hM'.size
        have hbr := World.block_lt_of_cell? _ _ d0
        have hbr' := World.block_lt_of_cell? _ _ s0
        simp only at hbr hbr'
        have HV := Lib.hid (show eqPartB x.kind x.ts x.beta y.kind y.ts y.beta x.hops y.hops n3 n3' = eqPartT (zs.getD k default) (zs'.getD k default) by rw [← hx.out, ← hy.out]; unfold eqPartT; rw [r3.1, r3'.1])
        cases he : eqPartT (zs.getD k default) (zs'.getD k default)
        · have HE := Lib.hid (show eqListB eqPartT zs zs' n n = false by rw [HR.out]; exact eqUpTo_stop he n hlt)
          replace HV := Lib.hid (HV.out.trans he)
          clear he
          go_wp2_with fail
          go_region_with (go_at_call 100; refine (specEqPart x.kind x.ts x.beta y.kind y.ts y.beta a3 a3' n3 n3' c3 c3' B B' x.hops y.hops _ (r3.mk (Mk.drew1 _) hB1 (.inr (Nat.le_refl _))) (r3'.mk (Mk.drew1 _) hB1' (.inr (Nat.le_refl _))) hB1 hB1' hS3 hS3').mono ?_; rintro e w2 ⟨hv, m2⟩; rw [HV.out] at hv; subst hv)
          all_goals (
            have m3 : Mk0 wr w2 := ⟨m2.os, m2.tape, m2.output, m2.size, m2.block⟩
            clear m2 d0 s0 d1 s1 d2 s2 d3 s3
            refine ‹∀ (a : Act) (w : World), _ → _› _ _ ?_
            go_wp2_with fail
            go_ret
            exact ⟨retB HE.out.symm, M0.trans (hM.trans m3)⟩)
        · have HE := Lib.hid (eqUpTo_go hS.out he)
          replace HV := Lib.hid (HV.out.trans he)
          clear he
          go_wp2_with fail
          go_region_with (go_at_call 100; refine (specEqPart x.kind x.ts x.beta y.kind y.ts y.beta a3 a3' n3 n3' c3 c3' B B' x.hops y.hops _ (r3.mk (Mk.drew1 _) hB1 (.inr (Nat.le_refl _))) (r3'.mk (Mk.drew1 _) hB1' (.inr (Nat.le_refl _))) hB1 hB1' hS3 hS3').mono ?_; rintro e w2 ⟨hv, m2⟩; rw [HV.out] at hv; subst hv)
          all_goals (
            have m3 : Mk0 wr w2 := ⟨m2.os, m2.tape, m2.output, m2.size, m2.block⟩
            clear m2 d0 s0 d1 s1 d2 s2 d3 s3
            refine ‹∀ (a : Act) (w : World), _ → _› _ _ ?_
            go_wp2_with fail
            go_roundw
            case rel => exact ⟨rfl, k + 1, by omega, by go_num, HE.out, hM.trans m3⟩
            case measure => simp [intOf]; omega)
      · obtain rfl : k = n := by omega
        go_wp2_with fail
        go_ret
        exact ⟨retB (by rw [HR.out, hS.out]), hM'⟩
  · have HR := Lib.hid (show eqListB eqPartT zs zs' n n' = false from if_neg hz)
    have hz' : (((n : Int)) != ((n' : Int))) = true := by simp; omega
    go_enter Try.func67, Try.ntmps67
    go_wp2_with fail
    go_ret
    exact ⟨retB HR.out.symm, M0⟩

set_option maxRecDepth 100000 in
set_option maxHeartbeats 4000000 in
theorem efParts (a a' : Option Addr) (n n' c c' B B' : Nat) (zs zs' : List TPathPart) (w : World) (h : HasPathPart w B a n zs) (h' : HasPathPart w B' a' n' zs') (hB : B ≤ w.heap.size) (hB' : B' ≤ w.heap.size) (hn : szPathPart zs n ≤ 1048576) (hn' : szPathPart zs' n' ≤ 1048576) :
    Calls Try.prog 101 #[.slice a n c, .slice a' n' c', .func (Fn.func 102) #[] #[]] w fun e w' => e = .returned (.bool (eqListB eqPartT zs zs' n n')) ∧ Mk0 w w' := by
  have hn0 : n ≤ 1048576 := Nat.le_trans (szPathPart_n zs n) hn
  have hn0' : n' ≤ 1048576 := Nat.le_trans (szPathPart_n zs' n') hn'
  have M0 : Mk0 w w := Mk.refl _ _ _
  by_cases hz : n = n'
  · subst hz
    have HR := Lib.hid (show eqListB eqPartT zs zs' n n = eqUpTo eqPartT zs zs' n from if_pos rfl)
    go_enter Try.func101, Try.ntmps101
    go_wp2_with fail
    go_loopw [6, 17] (fun r i wr => r = .bool false ∧ ∃ k : Nat, k ≤ n ∧ i = .int .i64 k ∧ Hid (eqUpTo eqPartT zs zs' k = true) ∧ Mk0 w wr) (fun _ i _ => n - (intOf i).toNat)
    case atStart => exact ⟨rfl, 0, Nat.zero_le _, rfl, rfl, Mk.refl _ _ _⟩
    case round =>
      obtain ⟨rfl, k, hk, rfl, hS, hM⟩ := hrel
      have hM' := M0.trans hM
      by_cases hlt : k < n
      · obtain ⟨b, off, x, rfl, hb, hx, a3, n3, c3, d0, d1, d2, d3, r3, m3, t3, z3⟩ := HasPathPart.at _ _ _ _ _ _ (h.mk hM' hB (.inr (Nat.le_refl _))) hlt
        obtain ⟨b', off', y, rfl, hb', hy, a3', n3', c3', s0, s1, s2, s3, r3', m3', t3', z3'⟩ := HasPathPart.at _ _ _ _ _ _ (h'.mk hM' hB' (.inr (Nat.le_refl _))) hlt
        have hS3 : n3 ≤ 1048576 := by have HS := szPathPart_at zs hlt; rw [← hx.out] at HS; unfold sePathPart at HS; have := r3.1; omega
        have hS3' : n3' ≤ 1048576 := by have HS := szPathPart_at zs' hlt; rw [← hy.out] at HS; unfold sePathPart at HS; have := r3'.1; omega
        have hB1 := Nat.le_trans hB hM'.size
        have hB1' := Nat.le_trans hB' hM'.size
        have hbr := World.block_lt_of_cell? _ _ d0
        have hbr' := World.block_lt_of_cell? _ _ s0
        simp only at hbr hbr'
        have HV := Lib.hid (show eqPartB x.kind x.ts x.beta y.kind y.ts y.beta x.hops y.hops n3 n3' = eqPartT (zs.getD k default) (zs'.getD k default) by rw [← hx.out, ← hy.out]; unfold eqPartT; rw [r3.1, r3'.1])
        cases he : eqPartT (zs.getD k default) (zs'.getD k default)
        · have HE := Lib.hid (show eqListB eqPartT zs zs' n n = false by rw [HR.out]; exact eqUpTo_stop he n hlt)
          replace HV := Lib.hid (HV.out.trans he)
          clear he
          go_wp2_with fail
          have MB := (Mk.alloc wr (Obj.cells #[Value.int .i64 x.kind, Value.int .i64 x.ts, Value.int .i64 x.beta, Value.slice a3 n3 c3] 93)).new (Obj.cells #[Value.int .i64 y.kind, Value.int .i64 y.ts, Value.int .i64 y.beta, Value.slice a3' n3' c3'] 93)
          refine (implEqPart x.kind x.ts x.beta y.kind y.ts y.beta a3 a3' n3 n3' c3 c3' B B' x.hops y.hops _ (r3.mk MB hB1 (.inr (Nat.le_refl _))) (r3'.mk MB hB1' (.inr (Nat.le_refl _))) (Nat.le_trans hB1 MB.size) (Nat.le_trans hB1' MB.size) hS3 hS3').mono ?_
          rintro e w2 ⟨hv, m2⟩
          rw [HV.out] at hv
          subst hv
          clear d0 s0 d1 s1 d2 s2 d3 s3
          go_wp2_with fail
          go_ret
          exact ⟨retB HE.out.symm, M0.trans (hM.trans (MB.trans m2))⟩
        · have HE := Lib.hid (eqUpTo_go hS.out he)
          replace HV := Lib.hid (HV.out.trans he)
          clear he
          go_wp2_with fail
          have MB := (Mk.alloc wr (Obj.cells #[Value.int .i64 x.kind, Value.int .i64 x.ts, Value.int .i64 x.beta, Value.slice a3 n3 c3] 93)).new (Obj.cells #[Value.int .i64 y.kind, Value.int .i64 y.ts, Value.int .i64 y.beta, Value.slice a3' n3' c3'] 93)
          refine (implEqPart x.kind x.ts x.beta y.kind y.ts y.beta a3 a3' n3 n3' c3 c3' B B' x.hops y.hops _ (r3.mk MB hB1 (.inr (Nat.le_refl _))) (r3'.mk MB hB1' (.inr (Nat.le_refl _))) (Nat.le_trans hB1 MB.size) (Nat.le_trans hB1' MB.size) hS3 hS3').mono ?_
          rintro e w2 ⟨hv, m2⟩
          rw [HV.out] at hv
          subst hv
          clear d0 s0 d1 s1 d2 s2 d3 s3
          go_wp2_with fail
          go_roundw
          case rel => exact ⟨rfl, k + 1, by omega, by go_num, HE.out, hM.trans (MB.trans m2)⟩
          case measure => simp [intOf]; omega
      · obtain rfl : k = n := by omega
        go_wp2_with fail
        go_ret
        exact ⟨retB (by rw [HR.out, hS.out]), hM'⟩
  · have HR := Lib.hid (show eqListB eqPartT zs zs' n n' = false from if_neg hz)
    have hz' : (((n : Int)) != ((n' : Int))) = true := by simp; omega
    go_enter Try.func101, Try.ntmps101
    go_wp2_with fail
    go_ret
    exact ⟨retB HR.out.symm, M0⟩

set_option maxRecDepth 100000 in
set_option maxHeartbeats 4000000 in
theorem implEqPaths (a a' : Option Addr) (n n' c c' B B' : Nat) (zs zs' : List TPathPart) (w : World) (h : HasPathPart w B a n zs) (h' : HasPathPart w B' a' n' zs') (hB : B ≤ w.heap.size) (hB' : B' ≤ w.heap.size) (hn : szPathPart zs n ≤ 1048576) (hn' : szPathPart zs' n' ≤ 1048576) :
    Calls Try.prog 72 #[.agg #[.slice a n c], .agg #[.slice a' n' c']] w fun e w' => e = .returned (.bool (eqListB eqPartT zs zs' n n')) ∧ Mk0 w w' := by
  have M0 := (Mk.alloc w (Obj.cells #[Value.slice a n c] 30)).new (Obj.cells #[Value.slice a' n' c'] 30)
  go_enter Try.func72, Try.ntmps72
  go_wp2_with fail
  refine (efParts a a' n n' c c' B B' zs zs' _ (h.mk M0 hB (.inr (Nat.le_refl _))) (h'.mk M0 hB' (.inr (Nat.le_refl _))) (Nat.le_trans hB M0.size) (Nat.le_trans hB' M0.size) hn hn').mono ?_
  rintro e w2 ⟨rfl, m2⟩
  go_wp2_with fail
  go_ret
  exact ⟨rfl, M0.trans m2⟩

end Go.Proofs.Ytbjfcjjfhnjaiaa
