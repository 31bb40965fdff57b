
/- AddSignature, of both sides. -/
import Derived.Test.YtpkgpaeecjlnoaaIdxSignature
import Derived.Test.YtpkgpaeecjlnoaaRkSignature
import Derived.Test.YtpkgpaeecjlnoaaWk
namespace Go.Proofs.Ytpkgpaeecjlnoaa
open Go.ChangeShapes Go.WideShapes Go.ChangeAt Go.RowKit
set_option linter.unusedVariables false
def pSg (x y : TSignature) : Bool := (y.nd == x.nd)
set_option maxRecDepth 100000 in
set_option maxHeartbeats 4000000 in
theorem implSgP (x : TSignature) (bb : Nat) (y : TSignature) (w : World) (q0 : w.cell? ⟨bb, 0, none⟩ = some (.int .i64 x.nd)) :
    Calls Try.prog 106 #[.agg #[.int .i64 y.nd, .int .i64 y.val], .pointer (some ⟨bb, 0, none⟩)] w fun e w' => e = .returned (.bool (pSg x y)) ∧ Mk0 w w' := by
  have k0 := (Mk.alloc w (Obj.cells #[Value.int .i64 y.nd, Value.int .i64 y.val] 53)).cellAt q0
  go_enter Try.func106, Try.ntmps106
  go_wp2_with fail
  go_ret
  exact ⟨rfl, Mk.of_below (by go_grown)⟩

set_option maxRecDepth 100000 in
set_option maxHeartbeats 4000000 in
theorem implAddSig (x : TSignature) (a : Option Addr) (n c B : Nat) (zs : List TSignature) (w : World) (h : HasSignature w B a n zs) (hB : B ≤ w.heap.size) (hn : n ≤ 1048576) (hc0 : a = none → c = 0) (hnc : n ≤ c) :
    Calls Try.prog 41 #[.slice a n c, .agg #[.int .i64 x.nd, .int .i64 x.val]] w (OutRows 2 TSignature.cell w (putP (pSg x) zs n x)) := by
  obtain ⟨i0, hi0, hz0, hz1, hz2⟩ := info_parts infoRSignature
  have M0 := Mk.alloc w (Obj.cells #[Value.int .i64 x.nd, Value.int .i64 x.val] 53)
  have k0 : (w.alloc (Obj.cells #[Value.int .i64 x.nd, Value.int .i64 x.val] 53)).cell? ⟨w.heap.size, 0, none⟩ = some (.int .i64 x.nd) := by simp [go_sem]
  have k1 : (w.alloc (Obj.cells #[Value.int .i64 x.nd, Value.int .i64 x.val] 53)).cell? ⟨w.heap.size, 1, none⟩ = some (.int .i64 x.val) := by simp [go_sem]
  have hsz := Lib.hid (World.size_alloc w (Obj.cells #[Value.int .i64 x.nd, Value.int .i64 x.val] 53))
  generalize hW1 : w.alloc (Obj.cells #[Value.int .i64 x.nd, Value.int .i64 x.val] 53) = W1 at *
  go_enter Try.func41, Try.ntmps41
  go_wp2_with fail
  clear hW1
  refine (cloneSignature a n c B zs _ (h.mk M0 hB (.inr (Nat.le_refl _))) (Nat.le_trans hB M0.size) hn hc0 hnc).mono ?_
  rintro e w2 ⟨v2, rfl, ow, m2⟩
  replace k0 := m2.cellAt k0
  replace k1 := m2.cellAt k1
  obtain ⟨A, cc, rfl, hcc⟩ := ownsRow_sliceR2 ow
  rw [h.1] at ow hcc ⊢
  have oo := ownsRow_ownR (by decide) ow
  go_wp2_with fail
  refine (indexFuncSignature (pSg x) 106 (.pointer (some ⟨w.heap.size, 0, none⟩)) A n cc w2.heap.size zs _ oo.has (Nat.le_refl _) hn (fun _ _ => rfl) (fun y w1 m => implSgP x _ y w1 (m.cellAt k0))).mono ?_
  rintro e w3 ⟨rfl, m3⟩
  replace k0 := m3.cellAt k0
  replace k1 := m3.cellAt k1
  have MM := m2.trans m3
  have hs3 := m3.size
  replace ow := own_keptR ow m3
  replace oo := oo.mk m3 (Nat.le_refl _) (.inr (.inr (Nat.le_refl _)))
  have hwx := World.block_lt_of_cell? _ _ k0
  simp only at hwx
  rcases firstP_or (pSg x) zs n n with hf | ⟨k, hf, hkn⟩
  · have HP := Lib.hid (putP_no (x := x) hf)
    rw [hf]
    have MX := Mk.alloc w3 (Obj.cells #[Value.int .i64 x.nd, Value.int .i64 x.val] 53)
    have ow4 := own_keptR ow MX
    have hh3 := hasR_new (cell := TSignature.cell) (nc := 2) (by decide) w3 53 x #[Value.int .i64 x.nd, Value.int .i64 x.val] (fun j hj => by match j, hj with | 0, _ => rfl | 1, _ => rfl)
    have hlo4 := (MM.trans MX).size
    go_wp2_with (at_builtin; refine wpList_appR (by decide) rk1Signature rfl (.tmp 13) (.tmp 15) 62 rfl _ 53 i0 _ Try.underlying62 hi0 hz0 rfl hz1 (by rw [hz2]; decide) _ zs n rfl ow4 _ 1 1 [x] rfl (fun h => by cases h) hh3 (by omega) hlo4 ?_; intro v5 w5 hown5 hgr5)
    have M5 := (MM.trans MX).appR hgr5 (fun g hg => (ow4.lt g hg).1)
    go_wp2_with fail
    go_ret
    rw [HP.out]
    exact OutRows.of (w := w) (by decide) (own_lowR hown5 M0.size) (M0.trans M5)
  · have hkn := hkn (Nat.le_refl _) (by rcases Nat.eq_zero_or_pos n with h0 | h0; · subst h0; rw [firstP] at hf; omega
                                        · exact h0)
    have HP := Lib.hid (putP_at (x := x) hf)
    rw [hf]
    clear hf
    obtain ⟨b, off, y, rfl, hb, hx, q0, q1⟩ := HasSignature.at _ _ _ _ _ _ oo.has hkn
    have hfz : ∀ j, j < 2 → w3.frozen? ⟨b, off + (k * 2 + j), none⟩ = false := fun j hj => by
      obtain ⟨b', off', e', _, _, hc'⟩ := oo.2 (by omega)
      simp only [Option.some.injEq, Addr.mk.injEq, and_true] at e'
      obtain ⟨rfl, rfl⟩ := e'
      exact (hc' _ (flat_le hkn hj)).2
    have f0 := hfz 0 (by omega)
    have f1 := hfz 1 (by omega)
    rw [Nat.add_zero] at f0
    rw [← Nat.add_assoc] at f1
    have hbl : w.heap.size ≤ b := by
      obtain ⟨b', off', e', hl', _, _⟩ := oo.2 (by omega)
      simp only [Option.some.injEq, Addr.mk.injEq, and_true] at e'
      obtain ⟨rfl, rfl⟩ := e'
      exact Nat.le_trans M0.size hl'
    have hbw := World.block_lt_of_cell? _ _ q0
    simp only at hbw
    have i1 : (0 : Int) ≤ (k : Int) := by omega
    have i2 : (k : Int) < (n : Int) := by omega
    have i3 : ¬ (k : Int) < 0 := by omega
    clear hfz
    go_wp2_with fail
    go_ret
    rw [HP.out]
    refine ⟨_, n, cc, rfl, ⟨(fun h => by cases h), hcc.2⟩, ?_, ?_⟩
    · have hu := oo.upd (k := k) (x := x) (w' := ((w3.setCell ⟨b, off + k * 2, none⟩ (.int .i64 x.nd)).setCell ⟨b, off + k * 2 + 1, none⟩ (.int .i64 x.val))) (by decide) hkn (fun j hj => ?_) (fun p => by rw [World.frozen?_setCell, World.frozen?_setCell]) (fun j hj hjk => ?_)
      · exact (hu.wide M0.size (by simp only [World.size_set]; omega))
      · match j, hj with
        | 0, _ => exact cell_set (World.cell?_setCell_same _ _ _ q0) _ _ (.inr (by show off + k * 2 + 1 ≠ off + (k * 2 + 0); omega))
        | 1, _ => exact World.cell?_setCell_same _ _ _ (cell_set q1 _ _ (.inr (by show off + k * 2 ≠ off + k * 2 + 1; omega)))
      · rw [World.cell?_setCell_other _ _ _ _ (fun e => by simp only [Addr.mk.injEq] at e; omega), World.cell?_setCell_other _ _ _ _ (fun e => by simp only [Addr.mk.injEq] at e; omega)]
    · exact (((M0.trans MM).put _ _ hbl).put _ _ hbl)

set_option maxRecDepth 100000 in
set_option maxHeartbeats 4000000 in
theorem specAddSig (x : TSignature) (a : Option Addr) (n c B : Nat) (zs : List TSignature) (w : World) (h : HasSignature w B a n zs) (hB : B ≤ w.heap.size) (hn : n ≤ 1048576) (hc0 : a = none → c = 0) (hnc : n ≤ c) :
    Calls Try.prog 38 #[.slice a n c, .agg #[.int .i64 x.nd, .int .i64 x.val]] w (OutRows 2 TSignature.cell w (putP (pSg x) zs n x)) := by
  obtain ⟨i0, hi0, hz0, hz1, hz2⟩ := info_parts infoRSignature
  have M0 := Mk.alloc w (Obj.cells #[Value.int .i64 x.nd, Value.int .i64 x.val] 53)
  have k0 : (w.alloc (Obj.cells #[Value.int .i64 x.nd, Value.int .i64 x.val] 53)).cell? ⟨w.heap.size, 0, none⟩ = some (.int .i64 x.nd) := by simp [go_sem]
  have k1 : (w.alloc (Obj.cells #[Value.int .i64 x.nd, Value.int .i64 x.val] 53)).cell? ⟨w.heap.size, 1, none⟩ = some (.int .i64 x.val) := by simp [go_sem]
  have hsz := Lib.hid (World.size_alloc w (Obj.cells #[Value.int .i64 x.nd, Value.int .i64 x.val] 53))
  generalize hW1 : w.alloc (Obj.cells #[Value.int .i64 x.nd, Value.int .i64 x.val] 53) = W1 at *
  have hl0 := own_emptyR W1 53 2
  have ML := Mk.alloc W1 (.cells #[] 53)
  have hh := (h.mk (M0.trans ML) hB (.inr (Nat.le_refl _))).mono (Nat.le_trans hB (M0.trans ML).size)
  have hlo := ML.size
  go_enter Try.func38, Try.ntmps38
  go_wp2_with (at_builtin; refine wpList_appR (by decide) rk1Signature rfl (.tmp 7) (.tmp 8) 62 rfl W1.heap.size 53 i0 _ Try.underlying62 hi0 hz0 rfl hz1 (by rw [hz2]; decide) _ [] 0 rfl hl0 _ n c zs rfl hc0 hh (by omega) hlo ?_; intro v2 w2 ow hgr2)
  have m2 := ML.appR hgr2 (fun g hg => (hl0.lt g hg).1)
  clear hW1 hl0 hh hlo hgr2 ML
  simp only [Nat.zero_add, List.nil_append] at ow
  replace ow : w2.ownsRow W1.heap.size 53 2 v2 n (rowC 2 TSignature.cell zs) := ow
  obtain ⟨A, cc, rfl, hcc⟩ := ownsRow_sliceR2 ow
  have oo := ownsRow_ownR (by decide) ow
  replace k0 := m2.cellAt k0
  replace k1 := m2.cellAt k1
  have hwx := World.block_lt_of_cell? _ _ k0
  simp only at hwx
  go_wp2_with fail
  go_loopw [6] (fun i wr => ∃ k : Nat, k ≤ n ∧ i = .int .i64 k ∧ Hid (firstP (pSg x) zs n n = firstP (pSg x) zs n (n - k)) ∧ Mk0 w2 wr) (fun i _ => n - (intOf i).toNat)
  case atStart => exact ⟨0, Nat.zero_le _, rfl, rfl, Mk.refl _ _ _⟩
  case round =>
    obtain ⟨k, hk, rfl, hS, hM⟩ := hrel
    replace k0 := hM.cellAt k0
    replace k1 := hM.cellAt k1
    replace ow := own_keptR ow hM
    replace oo := oo.mk hM (Nat.le_refl _) (.inr (.inr (Nat.le_refl _)))
    have MM := m2.trans hM
    by_cases hkn : k < n
    · obtain ⟨b, off, y, rfl, hb, hx, q0, q1⟩ := HasSignature.at _ _ _ _ _ _ oo.has hkn
      have hfz : ∀ j, j < 2 → wr.frozen? ⟨b, off + (k * 2 + j), none⟩ = false := fun j hj => by
        obtain ⟨b', off', e', _, _, hc'⟩ := oo.2 (by omega)
        simp only [Option.some.injEq, Addr.mk.injEq, and_true] at e'
        obtain ⟨rfl, rfl⟩ := e'
        exact (hc' _ (flat_le hkn hj)).2
      have hbl : w.heap.size ≤ b := by
        obtain ⟨b', off', e', hl', _, _⟩ := oo.2 (by omega)
        simp only [Option.some.injEq, Addr.mk.injEq, and_true] at e'
        obtain ⟨rfl, rfl⟩ := e'
        exact Nat.le_trans M0.size hl'
      have hbw := World.block_lt_of_cell? _ _ q0
      simp only at hbw
      have i1 : (0 : Int) ≤ (k : Int) := by omega
      have i2 : (k : Int) < (n : Int) := by omega
      cases he : (y.nd == x.nd)
      · have HE := Lib.hid (show firstP (pSg x) zs n n = firstP (pSg x) zs n (n - (k + 1)) by rw [hS.out]; exact firstP_go hkn (by rw [← hx.out]; exact he))
        clear hfz
        go_wp2_with fail
        refine wp_region_wk (fun w' => Mk0 wr w' ∧ w'.cell? ⟨w.heap.size, 0, none⟩ = some (.int .i64 x.nd) ∧ w'.cell? ⟨w.heap.size, 1, none⟩ = some (.int .i64 x.val) ∧ w'.cell? ⟨b, off + k * 2, none⟩ = some (.int .i64 y.nd) ∧ w'.cell? ⟨b, off + k * 2 + 1, none⟩ = some (.int .i64 y.val)) (by kernel_rfl) (by kernel_rfl) (⟨Mk.drew1 _, k0, k1, q0, q1⟩) ?_
        change Wk _ _ _ _ 8 0 _
        first | (refine Wk.skip (m := 7) (k := 0) rfl (by rfl) ?_) | (refine Wk.step (m := 7) (k := 0) (v := _) rfl (by rfl) (fun wv hS => by obtain ⟨s0, s1, s2, s3, s4⟩ := hS; go_simp; try with_reducible rfl) ?_)
        try simp only [Act.put, List.getElem_toArray, List.getElem_cons_zero, List.setIfInBounds_toArray, List.set_cons_zero, List.set_cons_succ]
        first | (refine Wk.skip (m := 6) (k := 1) rfl (by rfl) ?_) | (refine Wk.step (m := 6) (k := 1) (v := _) rfl (by rfl) (fun wv hS => by obtain ⟨s0, s1, s2, s3, s4⟩ := hS; go_simp; try with_reducible rfl) ?_)
        try simp only [Act.put, List.getElem_toArray, List.getElem_cons_succ, List.getElem_cons_zero, List.setIfInBounds_toArray, List.set_cons_zero, List.set_cons_succ]
        first | (refine Wk.skip (m := 5) (k := 2) rfl (by rfl) ?_) | (refine Wk.step (m := 5) (k := 2) (v := _) rfl (by rfl) (fun wv hS => by obtain ⟨s0, s1, s2, s3, s4⟩ := hS; go_simp; try with_reducible rfl) ?_)
        try simp only [Act.put, List.getElem_toArray, List.getElem_cons_succ, List.getElem_cons_zero, List.setIfInBounds_toArray, List.set_cons_zero, List.set_cons_succ]
        first | (refine Wk.skip (m := 4) (k := 3) rfl (by rfl) ?_) | (refine Wk.step (m := 4) (k := 3) (v := _) rfl (by rfl) (fun wv hS => by obtain ⟨s0, s1, s2, s3, s4⟩ := hS; go_simp; try with_reducible rfl) ?_)
        try simp only [Act.put, List.getElem_toArray, List.getElem_cons_succ, List.getElem_cons_zero, List.setIfInBounds_toArray, List.set_cons_zero, List.set_cons_succ]
        first | (refine Wk.skip (m := 3) (k := 4) rfl (by rfl) ?_) | (refine Wk.step (m := 3) (k := 4) (v := _) rfl (by rfl) (fun wv hS => by obtain ⟨s0, s1, s2, s3, s4⟩ := hS; go_simp; try with_reducible rfl) ?_)
        try simp only [Act.put, List.getElem_toArray, List.getElem_cons_succ, List.getElem_cons_zero, List.setIfInBounds_toArray, List.set_cons_zero, List.set_cons_succ]
        first | (refine Wk.skip (m := 2) (k := 5) rfl (by rfl) ?_) | (refine Wk.step (m := 2) (k := 5) (v := _) rfl (by rfl) (fun wv hS => by obtain ⟨s0, s1, s2, s3, s4⟩ := hS; go_simp; try with_reducible rfl) ?_)
        try simp only [Act.put, List.getElem_toArray, List.getElem_cons_succ, List.getElem_cons_zero, List.setIfInBounds_toArray, List.set_cons_zero, List.set_cons_succ]
        first | (refine Wk.skip (m := 1) (k := 6) rfl (by rfl) ?_) | (refine Wk.step (m := 1) (k := 6) (v := _) rfl (by rfl) (fun wv hS => by obtain ⟨s0, s1, s2, s3, s4⟩ := hS; go_simp; try with_reducible rfl) ?_)
        try simp only [Act.put, List.getElem_toArray, List.getElem_cons_succ, List.getElem_cons_zero, List.setIfInBounds_toArray, List.set_cons_zero, List.set_cons_succ]
        first | (refine Wk.skip (m := 0) (k := 7) rfl (by rfl) ?_) | (refine Wk.step (m := 0) (k := 7) (v := _) rfl (by rfl) (fun wv hS => by obtain ⟨s0, s1, s2, s3, s4⟩ := hS; go_simp; try with_reducible rfl) ?_)
        try simp only [Act.put, List.getElem_toArray, List.getElem_cons_succ, List.getElem_cons_zero, List.setIfInBounds_toArray, List.set_cons_zero, List.set_cons_succ]
        refine Wk.done fun wE hE => ?_
        obtain ⟨mE, k0, k1, q0, q1⟩ := hE
        go_wp2_with fail
        go_roundw
        case rel => exact ⟨k + 1, by omega, by go_num, HE.out, hM.trans mE⟩
        case measure => simp [intOf]; omega
      · have HP := Lib.hid (putP_at (x := x) (show firstP (pSg x) zs n n = (k : Int) by rw [hS.out]; exact firstP_stop hkn (by rw [← hx.out]; exact he)))
        go_wp2_with fail
        refine wp_region_wk (fun w' => Mk0 wr w' ∧ w'.cell? ⟨w.heap.size, 0, none⟩ = some (.int .i64 x.nd) ∧ w'.cell? ⟨w.heap.size, 1, none⟩ = some (.int .i64 x.val) ∧ w'.cell? ⟨b, off + k * 2, none⟩ = some (.int .i64 y.nd) ∧ w'.cell? ⟨b, off + k * 2 + 1, none⟩ = some (.int .i64 y.val)) (by kernel_rfl) (by kernel_rfl) (⟨Mk.drew1 _, k0, k1, q0, q1⟩) ?_
        change Wk _ _ _ _ 8 0 _
        first | (refine Wk.skip (m := 7) (k := 0) rfl (by rfl) ?_) | (refine Wk.step (m := 7) (k := 0) (v := _) rfl (by rfl) (fun wv hS => by obtain ⟨s0, s1, s2, s3, s4⟩ := hS; go_simp; try with_reducible rfl) ?_)
        try simp only [Act.put, List.getElem_toArray, List.getElem_cons_zero, List.setIfInBounds_toArray, List.set_cons_zero, List.set_cons_succ]
        first | (refine Wk.skip (m := 6) (k := 1) rfl (by rfl) ?_) | (refine Wk.step (m := 6) (k := 1) (v := _) rfl (by rfl) (fun wv hS => by obtain ⟨s0, s1, s2, s3, s4⟩ := hS; go_simp; try with_reducible rfl) ?_)
        try simp only [Act.put, List.getElem_toArray, List.getElem_cons_succ, List.getElem_cons_zero, List.setIfInBounds_toArray, List.set_cons_zero, List.set_cons_succ]
        first | (refine Wk.skip (m := 5) (k := 2) rfl (by rfl) ?_) | (refine Wk.step (m := 5) (k := 2) (v := _) rfl (by rfl) (fun wv hS => by obtain ⟨s0, s1, s2, s3, s4⟩ := hS; go_simp; try with_reducible rfl) ?_)
        try simp only [Act.put, List.getElem_toArray, List.getElem_cons_succ, List.getElem_cons_zero, List.setIfInBounds_toArray, List.set_cons_zero, List.set_cons_succ]
        first | (refine Wk.skip (m := 4) (k := 3) rfl (by rfl) ?_) | (refine Wk.step (m := 4) (k := 3) (v := _) rfl (by rfl) (fun wv hS => by obtain ⟨s0, s1, s2, s3, s4⟩ := hS; go_simp; try with_reducible rfl) ?_)
        try simp only [Act.put, List.getElem_toArray, List.getElem_cons_succ, List.getElem_cons_zero, List.setIfInBounds_toArray, List.set_cons_zero, List.set_cons_succ]
        first | (refine Wk.skip (m := 3) (k := 4) rfl (by rfl) ?_) | (refine Wk.step (m := 3) (k := 4) (v := _) rfl (by rfl) (fun wv hS => by obtain ⟨s0, s1, s2, s3, s4⟩ := hS; go_simp; try with_reducible rfl) ?_)
        try simp only [Act.put, List.getElem_toArray, List.getElem_cons_succ, List.getElem_cons_zero, List.setIfInBounds_toArray, List.set_cons_zero, List.set_cons_succ]
        first | (refine Wk.skip (m := 2) (k := 5) rfl (by rfl) ?_) | (refine Wk.step (m := 2) (k := 5) (v := _) rfl (by rfl) (fun wv hS => by obtain ⟨s0, s1, s2, s3, s4⟩ := hS; go_simp; try with_reducible rfl) ?_)
        try simp only [Act.put, List.getElem_toArray, List.getElem_cons_succ, List.getElem_cons_zero, List.setIfInBounds_toArray, List.set_cons_zero, List.set_cons_succ]
        first | (refine Wk.skip (m := 1) (k := 6) rfl (by rfl) ?_) | (refine Wk.step (m := 1) (k := 6) (v := _) rfl (by rfl) (fun wv hS => by obtain ⟨s0, s1, s2, s3, s4⟩ := hS; go_simp; try with_reducible rfl) ?_)
        try simp only [Act.put, List.getElem_toArray, List.getElem_cons_succ, List.getElem_cons_zero, List.setIfInBounds_toArray, List.set_cons_zero, List.set_cons_succ]
        first | (refine Wk.skip (m := 0) (k := 7) rfl (by rfl) ?_) | (refine Wk.step (m := 0) (k := 7) (v := _) rfl (by rfl) (fun wv hS => by obtain ⟨s0, s1, s2, s3, s4⟩ := hS; go_simp; try with_reducible rfl) ?_)
        try simp only [Act.put, List.getElem_toArray, List.getElem_cons_succ, List.getElem_cons_zero, List.setIfInBounds_toArray, List.set_cons_zero, List.set_cons_succ]
        refine Wk.done fun wE hE => ?_
        obtain ⟨mE, k0, k1, q0, q1⟩ := hE
        have hs3 := hM.size
        have hs4 := mE.size
        have f0 := (mE.frozen (b := b) (o := off + (k * 2 + 0)) hbw (.inr (Nat.zero_le _))).trans (hfz 0 (by omega))
        have f1 := (mE.frozen (b := b) (o := off + (k * 2 + 1)) hbw (.inr (Nat.zero_le _))).trans (hfz 1 (by omega))
        rw [Nat.add_zero] at f0
        rw [← Nat.add_assoc] at f1
        replace oo := oo.mk mE (Nat.le_trans (Nat.le_refl _) hM.size) (.inr (.inr (Nat.le_refl _)))
        replace MM := MM.trans mE
        have hbw := World.block_lt_of_cell? _ _ q0
        simp only at hbw
        clear hfz
        go_wp2_with fail
        go_ret
        rw [HP.out]
        refine ⟨_, n, cc, rfl, ⟨(fun h => by cases h), hcc.2⟩, ?_, ?_⟩
        · have hu := oo.upd (k := k) (x := x) (w' := ((wE.setCell ⟨b, off + k * 2, none⟩ (.int .i64 x.nd)).setCell ⟨b, off + k * 2 + 1, none⟩ (.int .i64 x.val))) (by decide) hkn (fun j hj => ?_) (fun p => by rw [World.frozen?_setCell, World.frozen?_setCell]) (fun j hj hjk => ?_)
          · exact (hu.wide M0.size (by simp only [World.size_set]; omega))
          · match j, hj with
            | 0, _ => exact cell_set (World.cell?_setCell_same _ _ _ q0) _ _ (.inr (by show off + k * 2 + 1 ≠ off + (k * 2 + 0); omega))
            | 1, _ => exact World.cell?_setCell_same _ _ _ (cell_set q1 _ _ (.inr (by show off + k * 2 ≠ off + k * 2 + 1; omega)))
          · rw [World.cell?_setCell_other _ _ _ _ (fun e => by simp only [Addr.mk.injEq] at e; omega), World.cell?_setCell_other _ _ _ _ (fun e => by simp only [Addr.mk.injEq] at e; omega)]
        · exact (((M0.trans MM).put _ _ hbl).put _ _ hbl)
    · obtain rfl : k = n := by omega
      have HP := Lib.hid (putP_no (x := x) (show firstP (pSg x) zs k k = -1 by rw [hS.out, Nat.sub_self]; rfl))
      have MX := Mk.alloc wr (Obj.cells #[Value.int .i64 x.nd, Value.int .i64 x.val] 53)
      have ow4 := own_keptR ow MX
      have hh3 := hasR_new (cell := TSignature.cell) (nc := 2) (by decide) wr 53 x #[Value.int .i64 x.nd, Value.int .i64 x.val] (fun j hj => by match j, hj with | 0, _ => rfl | 1, _ => rfl)
      have hlo4 := (MM.trans MX).size
      go_wp2_with (at_builtin; refine wpList_appR (by decide) rk1Signature rfl (.tmp 29) (.tmp 31) 62 rfl _ 53 i0 _ Try.underlying62 hi0 hz0 rfl hz1 (by rw [hz2]; decide) _ zs k rfl ow4 _ 1 1 [x] rfl (fun h => by cases h) hh3 (by omega) hlo4 ?_; intro v5 w5 hown5 hgr5)
      have M5 := (MM.trans MX).appR hgr5 (fun g hg => (ow4.lt g hg).1)
      go_wp2_with fail
      go_ret
      rw [HP.out]
      exact OutRows.of (w := w) (by decide) (own_lowR hown5 M0.size) (M0.trans M5)

end Go.Proofs.Ytpkgpaeecjlnoaa
