
/- The model's insertion among ascending numbers. -/
import Derived.Test.YtkmofhpipcodbaaStepA
import Derived.Test.YtkmofhpipcodbaaSortM
import Derived.Test.YtkmofhpipcodbaaApp
import Derived.Test.YtkmofhpipcodbaaAppR
import Derived.Test.YtkmofhpipcodbaaRealm
import Derived.Test.YtkmofhpipcodbaaInfo
namespace Go.Proofs.Ytkmofhpipcodbaa
open Go.ChangeShapes Go.WideShapes Go.ChangeAt Go.RowKit
set_option linter.unusedVariables false
theorem has_nil5 {w : World} {B : Nat} (A : Option Addr) : Has .i64 w B A 0 [] := ⟨rfl, fun h => absurd h (by omega)⟩
/-- A call that hands back ascending numbers, x among them. -/
def OutPut (lo : Nat) (w : World) (L : List Int) (x : Int) (e : Ending) (w' : World) : Prop :=
  ∃ b off N C R, e = .returned (.slice (some ⟨b, off, none⟩) N C) ∧ Own .i64 w' lo (some ⟨b, off, none⟩) N R ∧ N ≤ C ∧ Mk0 w w' ∧ SL R ∧ (∀ y, y ∈ R ↔ y = x ∨ y ∈ L) ∧ N ≤ L.length + 1
set_option maxRecDepth 100000 in
set_option maxHeartbeats 4000000 in
theorem specPut5 (b off n c lo : Nat) (L : List Int) (x : Int) (w : World) (h : Own .i64 w lo (some ⟨b, off, none⟩) n L) (hlo : lo ≤ w.heap.size) (hn : n ≤ 4194304) (hnc : n ≤ c) (hSL : SL L) :
    Calls Try.prog 105 #[.slice (some ⟨b, off, none⟩) n c, .int .i64 x] w (OutPut lo w L x) := by
  obtain ⟨i0, hi, hz0, hz1, hz2⟩ := info_parts infoI64
  have hby : i0.bytes ≤ 8 := by rw [hz2]; decide
  have hh := h.has
  have hl := h.1
  have HSL := Lib.hid hSL
  have HO := Lib.hid h
  clear hSL h
  have HH := Lib.hid (fun (w' : World) (m : Mk0 w w') => show Has .i64 w' w.heap.size (some ⟨b, off, none⟩) n L from hh.keep fun p hp => by obtain ⟨pb, po, ps⟩ := p; exact World.cell?_of_block (w := w) (m.block pb hp (.inr (Nat.zero_le _))))
  go_enter Try.func105, Try.ntmps105
  go_wp2_with fail
  go_loop [5] (fun i => ∃ k : Nat, k ≤ n ∧ i = .int .i64 k ∧ Hid (∀ j, j < k → L.getD j 0 < x)) (fun i => n - (intOf i).toNat)
  case atStart => exact ⟨0, Nat.zero_le _, rfl, Lib.hid fun j hj => absurd hj (by omega)⟩
  case round =>
    obtain ⟨k, hk, rfl, hS⟩ := hrel
    have HT := Lib.hid (fun (w' : World) (m : Mk0 w w') => show Has .i64 w' w'.heap.size (some ⟨b, off, none⟩) k (L.take k) from ⟨by rw [List.length_take]; omega, fun h0 => by obtain ⟨b', o', e, hb, hc⟩ := (HH.out w' m).2 (by omega); exact ⟨b', o', e, Nat.lt_of_lt_of_le hb m.size, fun i hi => by rw [hc i (by omega)]; simp [List.getD_eq_getElem?_getD, hi]⟩⟩)
    have i1 : (0 : Int) ≤ (k : Int) := by omega
    have i3 : (k : Int) ≤ (c : Int) := by omega
    by_cases hlt : k < n
    · obtain ⟨b', off', z, eb, hb, hz, c0⟩ := hh.at_ hlt
      simp only [Option.some.injEq, Addr.mk.injEq, and_true] at eb
      obtain ⟨rfl, rfl⟩ := eb
      have i2 : (k : Int) < (n : Int) := by omega
      have kn : decide ((k : Int) < (n : Int)) = true := decide_eq_true i2
      have kn' : decide (k < n) = true := decide_eq_true hlt
      by_cases hzx : z < x
      · have q1 : decide (z < x) = true := decide_eq_true hzx
        have HE := Lib.hid (show ∀ j, j < k + 1 → L.getD j 0 < x from fun j hj => by by_cases e : j = k; (subst e; rw [← hz.out]; exact hzx); exact hS.out j (by omega))
        clear hzx
        go_wp2_with fail
        go_round
        case rel => exact ⟨k + 1, by omega, by go_num, HE⟩
        case measure => simp [intOf]; omega
      · have q1 : decide (z < x) = false := decide_eq_false hzx
        have HP := Lib.hid (putI_ok (x := x) (k := k) HSL.out (by omega) hS.out (fun _ => by rw [← hz.out]; omega))
        cases q2 : (z == x)
        · have HNE := Lib.hid (show putI L x k = L.take k ++ [x] ++ L.drop k by unfold putI; rw [if_neg (fun hh => by have := hh.2; rw [← hz.out] at this; simp [this] at q2)])
          have kc : ¬ c = k := by omega
          have kcn : (c == k) = false := by simp; omega
          have HD := Lib.hid (fun (w' : World) (m : Mk0 w w') => show Has .i64 w' w'.heap.size (some ⟨b, off + k, none⟩) (n - k) (L.drop k) from ⟨by rw [List.length_drop]; omega, fun h0 => by obtain ⟨b', o', e, hb, hc⟩ := (HH.out w' m).2 (by omega); simp only [Option.some.injEq, Addr.mk.injEq, and_true] at e; obtain ⟨rfl, rfl⟩ := e; exact ⟨b, off + k, rfl, Nat.lt_of_lt_of_le hb m.size, fun i hi => by rw [show off + k + i = off + (k + i) by omega, hc (k + i) (by omega)]; simp [List.getD_eq_getElem?_getD]⟩⟩)
          clear hh hS
          go_wp2_with fail
          refine wp_region_any (by kernel_rfl) ?_
          change wpAny _ _ _ _ _ _ _ (World.drew _)
          refine wpAny_take (i := 1) (v := _) rfl (by kernel_rfl) (by kernel_rfl) (by kernel_rfl) (fun _ _ _ h => h) (Or.inl ⟨by rfl, fun w => by go_simp; try with_reducible rfl⟩) ?_
          try simp only [Act.put, List.getElem_toArray, List.getElem_cons_succ, List.getElem_cons_zero, List.setIfInBounds_toArray, List.set_cons_zero, List.set_cons_succ]
          refine wpAny_take (i := 2) (v := _) rfl (by kernel_rfl) (by kernel_rfl) (by kernel_rfl) (fun _ _ _ h => h) (Or.inl ⟨by rfl, fun w => by go_simp; try with_reducible rfl⟩) ?_
          try simp only [Act.put, List.getElem_toArray, List.getElem_cons_succ, List.getElem_cons_zero, List.setIfInBounds_toArray, List.set_cons_zero, List.set_cons_succ]
          refine wpAny_take (i := 3) (v := _) rfl (by kernel_rfl) (by kernel_rfl) (by kernel_rfl) (fun _ _ _ h => h) (Or.inl ⟨by rfl, fun w => by go_simp; try with_reducible rfl⟩) ?_
          try simp only [Act.put, List.getElem_toArray, List.getElem_cons_succ, List.getElem_cons_zero, List.setIfInBounds_toArray, List.set_cons_zero, List.set_cons_succ]
          refine wpAny_take (i := 5) (v := _) rfl (by kernel_rfl) (by kernel_rfl) (by kernel_rfl) (fun _ _ _ h => h) (Or.inl ⟨by rfl, fun w => by go_simp; try with_reducible rfl⟩) ?_
          try simp only [Act.put, List.getElem_toArray, List.getElem_cons_succ, List.getElem_cons_zero, List.setIfInBounds_toArray, List.set_cons_zero, List.set_cons_succ]
          refine wpAny_take (i := 8) (v := _) rfl (by kernel_rfl) (by kernel_rfl) (by kernel_rfl) (fun _ _ _ h => h) (Or.inl ⟨by rfl, fun w => by go_simp; try with_reducible rfl⟩) ?_
          try simp only [Act.put, List.getElem_toArray, List.getElem_cons_succ, List.getElem_cons_zero, List.setIfInBounds_toArray, List.set_cons_zero, List.set_cons_succ]
          refine wpAny_take (i := 9) (v := _) rfl (by kernel_rfl) (by kernel_rfl) (by kernel_rfl) (fun _ _ _ h => h) (Or.inl ⟨by rfl, fun w => by go_simp; try with_reducible rfl⟩) ?_
          try simp only [Act.put, List.getElem_toArray, List.getElem_cons_succ, List.getElem_cons_zero, List.setIfInBounds_toArray, List.set_cons_zero, List.set_cons_succ]
          refine wpAny_take (i := 10) (v := _) rfl (by kernel_rfl) (by kernel_rfl) (by kernel_rfl) (fun _ _ _ h => h) (Or.inl ⟨by rfl, fun w => by go_simp; try with_reducible rfl⟩) ?_
          try simp only [Act.put, List.getElem_toArray, List.getElem_cons_succ, List.getElem_cons_zero, List.setIfInBounds_toArray, List.set_cons_zero, List.set_cons_succ]
          refine wpAny_ready (rs := [0, 6]) (by kernel_rfl) (by simp) ?_
          refine (AllReady.cons rfl (fun K hK => ?_) (AllReady.cons rfl (fun K hK => ?_) AllReady.nil))
          · go_simp
            refine hK _ _ ?_
            clear hK K
            try simp only [Act.put, List.getElem_toArray, List.getElem_cons_succ, List.getElem_cons_zero, List.setIfInBounds_toArray, List.set_cons_zero, List.set_cons_succ]
            have hA : (w.drew.alloc (.cells #[] 3)).ownsRow w.heap.size 3 1 (.slice (some ⟨w.heap.size, 0, none⟩) 0 0) 0 (([] : List Int).map (.int .i64)) := own_lit w.drew 3 [] (by simp)
            have hM0 : Mk0 w (w.drew.alloc (.cells #[] 3)) := (Mk.drew1 w).new _
            refine wpAny_ready (rs := [4, 6]) (by kernel_rfl) (by simp) ?_
            refine (AllReady.cons rfl (fun K hK => ?_) (AllReady.cons rfl (fun K hK => ?_) AllReady.nil))
            · refine step_app (k := .i64) (by rfl) (.tmp 33) (.tmp 36) 37 (by rfl) w.heap.size 3 i0 Try.underlying37 hi hz0 hz1 hby _ [] 0 (by rfl) hA ⟨b, off, none⟩ k c (L.take k) (by rfl) (HT.out _ hM0) (by omega) hM0.size ?_
              intro v1 w1 ho1 hg1 hat1
              refine hK _ _ ?_
              clear hK K
              try simp only [Act.put, List.getElem_toArray, List.getElem_cons_succ, List.getElem_cons_zero, List.setIfInBounds_toArray, List.set_cons_zero, List.set_cons_succ]
              have hM1' := mk_grew hM0 hg1 (fun g e => (hA.lt g e).1)
              refine wpAny_ready (rs := [6]) (by kernel_rfl) (by simp) ?_
              refine (AllReady.cons rfl (fun K hK => ?_) AllReady.nil)
              go_simp
              refine hK _ _ ?_
              clear hK K
              try simp only [Act.put, List.getElem_toArray, List.getElem_cons_succ, List.getElem_cons_zero, List.setIfInBounds_toArray, List.set_cons_zero, List.set_cons_succ]
              have cN : (w1.alloc (.cells #[.int .i64 x] 3)).cell? ⟨w1.heap.size, 0, none⟩ = some (.int .i64 x) := by simp [go_sem]
              have hM1 := hM1'.new (.cells #[.int .i64 x] 3)
              replace ho1 := ho1.alloc (.cells #[.int .i64 x] 3)
              have hsz1 := hM1.size
              refine wpAny_ready (rs := [7]) (by kernel_rfl) (by simp) ?_
              refine (AllReady.cons rfl (fun K hK => ?_) AllReady.nil)
              refine step_app (k := .i64) (by rfl) (.tmp 37) (.tmp 39) 37 (by rfl) w.heap.size 3 i0 Try.underlying37 hi hz0 hz1 hby _ ([] ++ L.take k) (0 + k) (by rfl) ho1 ⟨w1.heap.size, 0, none⟩ 1 1 [x] (by rfl) (has_one cN (World.block_lt_of_cell? _ _ cN)) (by omega) hM1.size ?_
              intro v2 w2 ho2 hg2 hat2
              refine hK _ _ ?_
              clear hK K
              try simp only [Act.put, List.getElem_toArray, List.getElem_cons_succ, List.getElem_cons_zero, List.setIfInBounds_toArray, List.set_cons_zero, List.set_cons_succ]
              have hM2 := mk_grew hM1 hg2 (fun g e => (ho1.lt g e).1)
              refine wpAny_ready (rs := [11]) (by kernel_rfl) (by simp) ?_
              refine (AllReady.cons rfl (fun K hK => ?_) AllReady.nil)
              refine step_app (k := .i64) (by rfl) (.tmp 40) (.tmp 43) 37 (by rfl) w.heap.size 3 i0 Try.underlying37 hi hz0 hz1 hby _ ([] ++ L.take k ++ [x]) (0 + k + 1) (by rfl) ho2 ⟨b, off + k, none⟩ (n - k) (c - k) (L.drop k) (by rfl) (HD.out _ hM2) (by omega) hM2.size ?_
              intro v3 w3 ho3 hg3 hat3
              refine hK _ _ ?_
              clear hK K
              try simp only [Act.put, List.getElem_toArray, List.getElem_cons_succ, List.getElem_cons_zero, List.setIfInBounds_toArray, List.set_cons_zero, List.set_cons_succ]
              have hM3 := mk_grew hM2 hg3 (fun g e => (ho2.lt g e).1)
              refine wpAny_ready (rs := [12]) (by kernel_rfl) (by simp) ?_
              refine (AllReady.cons rfl (fun K hK => ?_) AllReady.nil)
              go_simp
              refine hK _ _ ?_
              clear hK K
              try simp only [Act.put, List.getElem_toArray, List.getElem_cons_succ, List.getElem_cons_zero, List.setIfInBounds_toArray, List.set_cons_zero, List.set_cons_succ]
              refine wpAny_done (by kernel_rfl) ?_ _
              have HL3 := Lib.hid ho3.1
              obtain ⟨A3, C3, rfl, hA3, hN3⟩ := ownsRow_sliceR2 ho3
              refine ‹∀ (a : Act) (w : World), _ → _› _ _ ?_
              have hw3 := (ownsRow_own ho3)
              obtain ⟨b3, o3, e3, hl3, hb3, hc3⟩ := hw3.2 (by omega)
              subst e3
              clear hl3 hb3 hc3
              go_wp2_with fail
              go_ret
              exact ⟨b3, o3, _, C3, _, rfl, hw3.low hlo, hN3, hM3, by rw [List.nil_append, ← HNE.out]; exact HP.out.1, fun y => by rw [List.nil_append, ← HNE.out]; exact HP.out.2 y, by omega⟩
            · go_simp
              refine hK _ _ ?_
              clear hK K
              try simp only [Act.put, List.getElem_toArray, List.getElem_cons_succ, List.getElem_cons_zero, List.setIfInBounds_toArray, List.set_cons_zero, List.set_cons_succ]
              have cN0 : ((w.drew.alloc (.cells #[] 3)).alloc (.cells #[.int .i64 x] 3)).cell? ⟨w.heap.size + 1, 0, none⟩ = some (.int .i64 x) := by simp [go_sem]
              replace hA := hA.alloc (.cells #[.int .i64 x] 3)
              replace hM0 := hM0.new (.cells #[.int .i64 x] 3)
              have hsz1 := hM0.size
              refine wpAny_ready (rs := [4]) (by kernel_rfl) (by simp) ?_
              refine (AllReady.cons rfl (fun K hK => ?_) AllReady.nil)
              refine step_app (k := .i64) (by rfl) (.tmp 33) (.tmp 36) 37 (by rfl) w.heap.size 3 i0 Try.underlying37 hi hz0 hz1 hby _ [] 0 (by rfl) hA ⟨b, off, none⟩ k c (L.take k) (by rfl) (HT.out _ hM0) (by omega) hM0.size ?_
              intro v1 w1 ho1 hg1 hat1
              refine hK _ _ ?_
              clear hK K
              try simp only [Act.put, List.getElem_toArray, List.getElem_cons_succ, List.getElem_cons_zero, List.setIfInBounds_toArray, List.set_cons_zero, List.set_cons_succ]
              have hM1 := mk_grew hM0 hg1 (fun g e => (hA.lt g e).1)
              have cN := cell_grew hg1 cN0 (by simp [Value.ownBlock])
              have hsz2 := hM1.size
              refine wpAny_ready (rs := [7]) (by kernel_rfl) (by simp) ?_
              refine (AllReady.cons rfl (fun K hK => ?_) AllReady.nil)
              refine step_app (k := .i64) (by rfl) (.tmp 37) (.tmp 39) 37 (by rfl) w.heap.size 3 i0 Try.underlying37 hi hz0 hz1 hby _ ([] ++ L.take k) (0 + k) (by rfl) ho1 ⟨(w.heap.size + 1), 0, none⟩ 1 1 [x] (by rfl) (has_one cN (World.block_lt_of_cell? _ _ cN)) (by omega) hM1.size ?_
              intro v2 w2 ho2 hg2 hat2
              refine hK _ _ ?_
              clear hK K
              try simp only [Act.put, List.getElem_toArray, List.getElem_cons_succ, List.getElem_cons_zero, List.setIfInBounds_toArray, List.set_cons_zero, List.set_cons_succ]
              have hM2 := mk_grew hM1 hg2 (fun g e => (ho1.lt g e).1)
              refine wpAny_ready (rs := [11]) (by kernel_rfl) (by simp) ?_
              refine (AllReady.cons rfl (fun K hK => ?_) AllReady.nil)
              refine step_app (k := .i64) (by rfl) (.tmp 40) (.tmp 43) 37 (by rfl) w.heap.size 3 i0 Try.underlying37 hi hz0 hz1 hby _ ([] ++ L.take k ++ [x]) (0 + k + 1) (by rfl) ho2 ⟨b, off + k, none⟩ (n - k) (c - k) (L.drop k) (by rfl) (HD.out _ hM2) (by omega) hM2.size ?_
              intro v3 w3 ho3 hg3 hat3
              refine hK _ _ ?_
              clear hK K
              try simp only [Act.put, List.getElem_toArray, List.getElem_cons_succ, List.getElem_cons_zero, List.setIfInBounds_toArray, List.set_cons_zero, List.set_cons_succ]
              have hM3 := mk_grew hM2 hg3 (fun g e => (ho2.lt g e).1)
              refine wpAny_ready (rs := [12]) (by kernel_rfl) (by simp) ?_
              refine (AllReady.cons rfl (fun K hK => ?_) AllReady.nil)
              go_simp
              refine hK _ _ ?_
              clear hK K
              try simp only [Act.put, List.getElem_toArray, List.getElem_cons_succ, List.getElem_cons_zero, List.setIfInBounds_toArray, List.set_cons_zero, List.set_cons_succ]
              refine wpAny_done (by kernel_rfl) ?_ _
              have HL3 := Lib.hid ho3.1
              obtain ⟨A3, C3, rfl, hA3, hN3⟩ := ownsRow_sliceR2 ho3
              refine ‹∀ (a : Act) (w : World), _ → _› _ _ ?_
              have hw3 := (ownsRow_own ho3)
              obtain ⟨b3, o3, e3, hl3, hb3, hc3⟩ := hw3.2 (by omega)
              subst e3
              clear hl3 hb3 hc3
              go_wp2_with fail
              go_ret
              exact ⟨b3, o3, _, C3, _, rfl, hw3.low hlo, hN3, hM3, by rw [List.nil_append, ← HNE.out]; exact HP.out.1, fun y => by rw [List.nil_append, ← HNE.out]; exact HP.out.2 y, by omega⟩
          · go_simp
            refine hK _ _ ?_
            clear hK K
            try simp only [Act.put, List.getElem_toArray, List.getElem_cons_succ, List.getElem_cons_zero, List.setIfInBounds_toArray, List.set_cons_zero, List.set_cons_succ]
            have cN0 : ((w.drew.alloc (.cells #[.int .i64 x] 3)).alloc (.cells #[] 3)).cell? ⟨w.heap.size, 0, none⟩ = some (.int .i64 x) := by simp [go_sem]
            refine wpAny_ready (rs := [0]) (by kernel_rfl) (by simp) ?_
            refine (AllReady.cons rfl (fun K hK => ?_) AllReady.nil)
            go_simp
            refine hK _ _ ?_
            clear hK K
            try simp only [Act.put, List.getElem_toArray, List.getElem_cons_succ, List.getElem_cons_zero, List.setIfInBounds_toArray, List.set_cons_zero, List.set_cons_succ]
            have hA : ((w.drew.alloc (.cells #[.int .i64 x] 3)).alloc (.cells #[] 3)).ownsRow w.heap.size 3 1 (.slice (some ⟨w.heap.size + 1, 0, none⟩) 0 0) 0 (([] : List Int).map (.int .i64)) := by have h1 := own_lit (w.drew.alloc (.cells #[.int .i64 x] 3)) 3 [] (by simp); rw [World.size_alloc] at h1; exact own_lowR h1 (Nat.le_succ _)
            have hM0 : Mk0 w ((w.drew.alloc (.cells #[.int .i64 x] 3)).alloc (.cells #[] 3)) := ((Mk.drew1 w).new _).new _
            have hsz1 := hM0.size
            refine wpAny_ready (rs := [4]) (by kernel_rfl) (by simp) ?_
            refine (AllReady.cons rfl (fun K hK => ?_) AllReady.nil)
            refine step_app (k := .i64) (by rfl) (.tmp 33) (.tmp 36) 37 (by rfl) w.heap.size 3 i0 Try.underlying37 hi hz0 hz1 hby _ [] 0 (by rfl) hA ⟨b, off, none⟩ k c (L.take k) (by rfl) (HT.out _ hM0) (by omega) hM0.size ?_
            intro v1 w1 ho1 hg1 hat1
            refine hK _ _ ?_
            clear hK K
            try simp only [Act.put, List.getElem_toArray, List.getElem_cons_succ, List.getElem_cons_zero, List.setIfInBounds_toArray, List.set_cons_zero, List.set_cons_succ]
            have hM1 := mk_grew hM0 hg1 (fun g e => (hA.lt g e).1)
            have cN := cell_grew hg1 cN0 (by simp [Value.ownBlock])
            have hsz2 := hM1.size
            refine wpAny_ready (rs := [7]) (by kernel_rfl) (by simp) ?_
            refine (AllReady.cons rfl (fun K hK => ?_) AllReady.nil)
            refine step_app (k := .i64) (by rfl) (.tmp 37) (.tmp 39) 37 (by rfl) w.heap.size 3 i0 Try.underlying37 hi hz0 hz1 hby _ ([] ++ L.take k) (0 + k) (by rfl) ho1 ⟨w.heap.size, 0, none⟩ 1 1 [x] (by rfl) (has_one cN (World.block_lt_of_cell? _ _ cN)) (by omega) hM1.size ?_
            intro v2 w2 ho2 hg2 hat2
            refine hK _ _ ?_
            clear hK K
            try simp only [Act.put, List.getElem_toArray, List.getElem_cons_succ, List.getElem_cons_zero, List.setIfInBounds_toArray, List.set_cons_zero, List.set_cons_succ]
            have hM2 := mk_grew hM1 hg2 (fun g e => (ho1.lt g e).1)
            refine wpAny_ready (rs := [11]) (by kernel_rfl) (by simp) ?_
            refine (AllReady.cons rfl (fun K hK => ?_) AllReady.nil)
            refine step_app (k := .i64) (by rfl) (.tmp 40) (.tmp 43) 37 (by rfl) w.heap.size 3 i0 Try.underlying37 hi hz0 hz1 hby _ ([] ++ L.take k ++ [x]) (0 + k + 1) (by rfl) ho2 ⟨b, off + k, none⟩ (n - k) (c - k) (L.drop k) (by rfl) (HD.out _ hM2) (by omega) hM2.size ?_
            intro v3 w3 ho3 hg3 hat3
            refine hK _ _ ?_
            clear hK K
            try simp only [Act.put, List.getElem_toArray, List.getElem_cons_succ, List.getElem_cons_zero, List.setIfInBounds_toArray, List.set_cons_zero, List.set_cons_succ]
            have hM3 := mk_grew hM2 hg3 (fun g e => (ho2.lt g e).1)
            refine wpAny_ready (rs := [12]) (by kernel_rfl) (by simp) ?_
            refine (AllReady.cons rfl (fun K hK => ?_) AllReady.nil)
            go_simp
            refine hK _ _ ?_
            clear hK K
            try simp only [Act.put, List.getElem_toArray, List.getElem_cons_succ, List.getElem_cons_zero, List.setIfInBounds_toArray, List.set_cons_zero, List.set_cons_succ]
            refine wpAny_done (by kernel_rfl) ?_ _
            have HL3 := Lib.hid ho3.1
            obtain ⟨A3, C3, rfl, hA3, hN3⟩ := ownsRow_sliceR2 ho3
            refine ‹∀ (a : Act) (w : World), _ → _› _ _ ?_
            have hw3 := (ownsRow_own ho3)
            obtain ⟨b3, o3, e3, hl3, hb3, hc3⟩ := hw3.2 (by omega)
            subst e3
            clear hl3 hb3 hc3
            go_wp2_with fail
            go_ret
            exact ⟨b3, o3, _, C3, _, rfl, hw3.low hlo, hN3, hM3, by rw [List.nil_append, ← HNE.out]; exact HP.out.1, fun y => by rw [List.nil_append, ← HNE.out]; exact HP.out.2 y, by omega⟩
        · have HX := Lib.hid (show putI L x k = L by unfold putI; rw [if_pos ⟨by omega, by rw [← hz.out]; simpa using q2⟩])
          go_wp2_with fail
          go_ret
          exact ⟨b, off, n, c, L, rfl, HO.out, hnc, Mk.refl _ _ _, HSL.out, fun y => by have := HP.out.2 y; rw [HX.out] at this; exact this, by omega⟩
    · obtain rfl : k = n := by omega
      have kn : decide ((k : Int) < (k : Int)) = false := decide_eq_false (by omega)
      have HP := Lib.hid (putI_ok (x := x) (k := k) HSL.out (by omega) hS.out (fun hh => absurd hh (by omega)))
      have HNE := Lib.hid (show putI L x k = L.take k ++ [x] ++ [] by unfold putI; rw [if_neg (by omega), List.drop_of_length_le (by omega)])
      clear hh hS
      by_cases hck : c = k
      · subst hck
        have HD := Lib.hid (fun (w' : World) (m : Mk0 w w') => (has_nil5 (some ⟨b, off, none⟩) : Has .i64 w' w'.heap.size (some ⟨b, off, none⟩) 0 []))
        go_wp2_with fail
        refine wp_region_any (by kernel_rfl) ?_
        change wpAny _ _ _ _ _ _ _ (World.drew _)
        refine wpAny_take (i := 1) (v := _) rfl (by kernel_rfl) (by kernel_rfl) (by kernel_rfl) (fun _ _ _ h => h) (Or.inl ⟨by rfl, fun w => by go_simp; try with_reducible rfl⟩) ?_
        try simp only [Act.put, List.getElem_toArray, List.getElem_cons_succ, List.getElem_cons_zero, List.setIfInBounds_toArray, List.set_cons_zero, List.set_cons_succ]
        refine wpAny_take (i := 2) (v := _) rfl (by kernel_rfl) (by kernel_rfl) (by kernel_rfl) (fun _ _ _ h => h) (Or.inl ⟨by rfl, fun w => by go_simp; try with_reducible rfl⟩) ?_
        try simp only [Act.put, List.getElem_toArray, List.getElem_cons_succ, List.getElem_cons_zero, List.setIfInBounds_toArray, List.set_cons_zero, List.set_cons_succ]
        refine wpAny_take (i := 3) (v := _) rfl (by kernel_rfl) (by kernel_rfl) (by kernel_rfl) (fun _ _ _ h => h) (Or.inl ⟨by rfl, fun w => by go_simp; try with_reducible rfl⟩) ?_
        try simp only [Act.put, List.getElem_toArray, List.getElem_cons_succ, List.getElem_cons_zero, List.setIfInBounds_toArray, List.set_cons_zero, List.set_cons_succ]
        refine wpAny_take (i := 5) (v := _) rfl (by kernel_rfl) (by kernel_rfl) (by kernel_rfl) (fun _ _ _ h => h) (Or.inl ⟨by rfl, fun w => by go_simp; try with_reducible rfl⟩) ?_
        try simp only [Act.put, List.getElem_toArray, List.getElem_cons_succ, List.getElem_cons_zero, List.setIfInBounds_toArray, List.set_cons_zero, List.set_cons_succ]
        refine wpAny_take (i := 8) (v := _) rfl (by kernel_rfl) (by kernel_rfl) (by kernel_rfl) (fun _ _ _ h => h) (Or.inl ⟨by rfl, fun w => by go_simp; try with_reducible rfl⟩) ?_
        try simp only [Act.put, List.getElem_toArray, List.getElem_cons_succ, List.getElem_cons_zero, List.setIfInBounds_toArray, List.set_cons_zero, List.set_cons_succ]
        refine wpAny_take (i := 9) (v := _) rfl (by kernel_rfl) (by kernel_rfl) (by kernel_rfl) (fun _ _ _ h => h) (Or.inl ⟨by rfl, fun w => by go_simp; try with_reducible rfl⟩) ?_
        try simp only [Act.put, List.getElem_toArray, List.getElem_cons_succ, List.getElem_cons_zero, List.setIfInBounds_toArray, List.set_cons_zero, List.set_cons_succ]
        refine wpAny_take (i := 10) (v := _) rfl (by kernel_rfl) (by kernel_rfl) (by kernel_rfl) (fun _ _ _ h => h) (Or.inl ⟨by rfl, fun w => by go_simp; try with_reducible rfl⟩) ?_
        try simp only [Act.put, List.getElem_toArray, List.getElem_cons_succ, List.getElem_cons_zero, List.setIfInBounds_toArray, List.set_cons_zero, List.set_cons_succ]
        refine wpAny_ready (rs := [0, 6]) (by kernel_rfl) (by simp) ?_
        refine (AllReady.cons rfl (fun K hK => ?_) (AllReady.cons rfl (fun K hK => ?_) AllReady.nil))
        · go_simp
          refine hK _ _ ?_
          clear hK K
          try simp only [Act.put, List.getElem_toArray, List.getElem_cons_succ, List.getElem_cons_zero, List.setIfInBounds_toArray, List.set_cons_zero, List.set_cons_succ]
          have hA : (w.drew.alloc (.cells #[] 3)).ownsRow w.heap.size 3 1 (.slice (some ⟨w.heap.size, 0, none⟩) 0 0) 0 (([] : List Int).map (.int .i64)) := own_lit w.drew 3 [] (by simp)
          have hM0 : Mk0 w (w.drew.alloc (.cells #[] 3)) := (Mk.drew1 w).new _
          refine wpAny_ready (rs := [4, 6]) (by kernel_rfl) (by simp) ?_
          refine (AllReady.cons rfl (fun K hK => ?_) (AllReady.cons rfl (fun K hK => ?_) AllReady.nil))
          · refine step_app (k := .i64) (by rfl) (.tmp 33) (.tmp 36) 37 (by rfl) w.heap.size 3 i0 Try.underlying37 hi hz0 hz1 hby _ [] 0 (by rfl) hA ⟨b, off, none⟩ c c (L.take c) (by rfl) (HT.out _ hM0) (by omega) hM0.size ?_
            intro v1 w1 ho1 hg1 hat1
            refine hK _ _ ?_
            clear hK K
            try simp only [Act.put, List.getElem_toArray, List.getElem_cons_succ, List.getElem_cons_zero, List.setIfInBounds_toArray, List.set_cons_zero, List.set_cons_succ]
            have hM1' := mk_grew hM0 hg1 (fun g e => (hA.lt g e).1)
            refine wpAny_ready (rs := [6]) (by kernel_rfl) (by simp) ?_
            refine (AllReady.cons rfl (fun K hK => ?_) AllReady.nil)
            go_simp
            refine hK _ _ ?_
            clear hK K
            try simp only [Act.put, List.getElem_toArray, List.getElem_cons_succ, List.getElem_cons_zero, List.setIfInBounds_toArray, List.set_cons_zero, List.set_cons_succ]
            have cN : (w1.alloc (.cells #[.int .i64 x] 3)).cell? ⟨w1.heap.size, 0, none⟩ = some (.int .i64 x) := by simp [go_sem]
            have hM1 := hM1'.new (.cells #[.int .i64 x] 3)
            replace ho1 := ho1.alloc (.cells #[.int .i64 x] 3)
            have hsz1 := hM1.size
            refine wpAny_ready (rs := [7]) (by kernel_rfl) (by simp) ?_
            refine (AllReady.cons rfl (fun K hK => ?_) AllReady.nil)
            refine step_app (k := .i64) (by rfl) (.tmp 37) (.tmp 39) 37 (by rfl) w.heap.size 3 i0 Try.underlying37 hi hz0 hz1 hby _ ([] ++ L.take c) (0 + c) (by rfl) ho1 ⟨w1.heap.size, 0, none⟩ 1 1 [x] (by rfl) (has_one cN (World.block_lt_of_cell? _ _ cN)) (by omega) hM1.size ?_
            intro v2 w2 ho2 hg2 hat2
            refine hK _ _ ?_
            clear hK K
            try simp only [Act.put, List.getElem_toArray, List.getElem_cons_succ, List.getElem_cons_zero, List.setIfInBounds_toArray, List.set_cons_zero, List.set_cons_succ]
            have hM2 := mk_grew hM1 hg2 (fun g e => (ho1.lt g e).1)
            refine wpAny_ready (rs := [11]) (by kernel_rfl) (by simp) ?_
            refine (AllReady.cons rfl (fun K hK => ?_) AllReady.nil)
            refine step_app (k := .i64) (by rfl) (.tmp 40) (.tmp 43) 37 (by rfl) w.heap.size 3 i0 Try.underlying37 hi hz0 hz1 hby _ ([] ++ L.take c ++ [x]) (0 + c + 1) (by rfl) ho2 ⟨b, off, none⟩ 0 0 [] (by rfl) (HD.out _ hM2) (by omega) hM2.size ?_
            intro v3 w3 ho3 hg3 hat3
            refine hK _ _ ?_
            clear hK K
            try simp only [Act.put, List.getElem_toArray, List.getElem_cons_succ, List.getElem_cons_zero, List.setIfInBounds_toArray, List.set_cons_zero, List.set_cons_succ]
            have hM3 := mk_grew hM2 hg3 (fun g e => (ho2.lt g e).1)
            refine wpAny_ready (rs := [12]) (by kernel_rfl) (by simp) ?_
            refine (AllReady.cons rfl (fun K hK => ?_) AllReady.nil)
            go_simp
            refine hK _ _ ?_
            clear hK K
            try simp only [Act.put, List.getElem_toArray, List.getElem_cons_succ, List.getElem_cons_zero, List.setIfInBounds_toArray, List.set_cons_zero, List.set_cons_succ]
            refine wpAny_done (by kernel_rfl) ?_ _
            have HL3 := Lib.hid ho3.1
            obtain ⟨A3, C3, rfl, hA3, hN3⟩ := ownsRow_sliceR2 ho3
            refine ‹∀ (a : Act) (w : World), _ → _› _ _ ?_
            have hw3 := (ownsRow_own ho3)
            obtain ⟨b3, o3, e3, hl3, hb3, hc3⟩ := hw3.2 (by omega)
            subst e3
            clear hl3 hb3 hc3
            go_wp2_with fail
            go_ret
            exact ⟨b3, o3, _, C3, _, rfl, hw3.low hlo, hN3, hM3, by rw [List.nil_append, ← HNE.out]; exact HP.out.1, fun y => by rw [List.nil_append, ← HNE.out]; exact HP.out.2 y, by omega⟩
          · go_simp
            refine hK _ _ ?_
            clear hK K
            try simp only [Act.put, List.getElem_toArray, List.getElem_cons_succ, List.getElem_cons_zero, List.setIfInBounds_toArray, List.set_cons_zero, List.set_cons_succ]
            have cN0 : ((w.drew.alloc (.cells #[] 3)).alloc (.cells #[.int .i64 x] 3)).cell? ⟨w.heap.size + 1, 0, none⟩ = some (.int .i64 x) := by simp [go_sem]
            replace hA := hA.alloc (.cells #[.int .i64 x] 3)
            replace hM0 := hM0.new (.cells #[.int .i64 x] 3)
            have hsz1 := hM0.size
            refine wpAny_ready (rs := [4]) (by kernel_rfl) (by simp) ?_
            refine (AllReady.cons rfl (fun K hK => ?_) AllReady.nil)
            refine step_app (k := .i64) (by rfl) (.tmp 33) (.tmp 36) 37 (by rfl) w.heap.size 3 i0 Try.underlying37 hi hz0 hz1 hby _ [] 0 (by rfl) hA ⟨b, off, none⟩ c c (L.take c) (by rfl) (HT.out _ hM0) (by omega) hM0.size ?_
            intro v1 w1 ho1 hg1 hat1
            refine hK _ _ ?_
            clear hK K
            try simp only [Act.put, List.getElem_toArray, List.getElem_cons_succ, List.getElem_cons_zero, List.setIfInBounds_toArray, List.set_cons_zero, List.set_cons_succ]
            have hM1 := mk_grew hM0 hg1 (fun g e => (hA.lt g e).1)
            have cN := cell_grew hg1 cN0 (by simp [Value.ownBlock])
            have hsz2 := hM1.size
            refine wpAny_ready (rs := [7]) (by kernel_rfl) (by simp) ?_
            refine (AllReady.cons rfl (fun K hK => ?_) AllReady.nil)
            refine step_app (k := .i64) (by rfl) (.tmp 37) (.tmp 39) 37 (by rfl) w.heap.size 3 i0 Try.underlying37 hi hz0 hz1 hby _ ([] ++ L.take c) (0 + c) (by rfl) ho1 ⟨(w.heap.size + 1), 0, none⟩ 1 1 [x] (by rfl) (has_one cN (World.block_lt_of_cell? _ _ cN)) (by omega) hM1.size ?_
            intro v2 w2 ho2 hg2 hat2
            refine hK _ _ ?_
            clear hK K
            try simp only [Act.put, List.getElem_toArray, List.getElem_cons_succ, List.getElem_cons_zero, List.setIfInBounds_toArray, List.set_cons_zero, List.set_cons_succ]
            have hM2 := mk_grew hM1 hg2 (fun g e => (ho1.lt g e).1)
            refine wpAny_ready (rs := [11]) (by kernel_rfl) (by simp) ?_
            refine (AllReady.cons rfl (fun K hK => ?_) AllReady.nil)
            refine step_app (k := .i64) (by rfl) (.tmp 40) (.tmp 43) 37 (by rfl) w.heap.size 3 i0 Try.underlying37 hi hz0 hz1 hby _ ([] ++ L.take c ++ [x]) (0 + c + 1) (by rfl) ho2 ⟨b, off, none⟩ 0 0 [] (by rfl) (HD.out _ hM2) (by omega) hM2.size ?_
            intro v3 w3 ho3 hg3 hat3
            refine hK _ _ ?_
            clear hK K
            try simp only [Act.put, List.getElem_toArray, List.getElem_cons_succ, List.getElem_cons_zero, List.setIfInBounds_toArray, List.set_cons_zero, List.set_cons_succ]
            have hM3 := mk_grew hM2 hg3 (fun g e => (ho2.lt g e).1)
            refine wpAny_ready (rs := [12]) (by kernel_rfl) (by simp) ?_
            refine (AllReady.cons rfl (fun K hK => ?_) AllReady.nil)
            go_simp
            refine hK _ _ ?_
            clear hK K
            try simp only [Act.put, List.getElem_toArray, List.getElem_cons_succ, List.getElem_cons_zero, List.setIfInBounds_toArray, List.set_cons_zero, List.set_cons_succ]
            refine wpAny_done (by kernel_rfl) ?_ _
            have HL3 := Lib.hid ho3.1
            obtain ⟨A3, C3, rfl, hA3, hN3⟩ := ownsRow_sliceR2 ho3
            refine ‹∀ (a : Act) (w : World), _ → _› _ _ ?_
            have hw3 := (ownsRow_own ho3)
            obtain ⟨b3, o3, e3, hl3, hb3, hc3⟩ := hw3.2 (by omega)
            subst e3
            clear hl3 hb3 hc3
            go_wp2_with fail
            go_ret
            exact ⟨b3, o3, _, C3, _, rfl, hw3.low hlo, hN3, hM3, by rw [List.nil_append, ← HNE.out]; exact HP.out.1, fun y => by rw [List.nil_append, ← HNE.out]; exact HP.out.2 y, by omega⟩
        · go_simp
          refine hK _ _ ?_
          clear hK K
          try simp only [Act.put, List.getElem_toArray, List.getElem_cons_succ, List.getElem_cons_zero, List.setIfInBounds_toArray, List.set_cons_zero, List.set_cons_succ]
          have cN0 : ((w.drew.alloc (.cells #[.int .i64 x] 3)).alloc (.cells #[] 3)).cell? ⟨w.heap.size, 0, none⟩ = some (.int .i64 x) := by simp [go_sem]
          refine wpAny_ready (rs := [0]) (by kernel_rfl) (by simp) ?_
          refine (AllReady.cons rfl (fun K hK => ?_) AllReady.nil)
          go_simp
          refine hK _ _ ?_
          clear hK K
          try simp only [Act.put, List.getElem_toArray, List.getElem_cons_succ, List.getElem_cons_zero, List.setIfInBounds_toArray, List.set_cons_zero, List.set_cons_succ]
          have hA : ((w.drew.alloc (.cells #[.int .i64 x] 3)).alloc (.cells #[] 3)).ownsRow w.heap.size 3 1 (.slice (some ⟨w.heap.size + 1, 0, none⟩) 0 0) 0 (([] : List Int).map (.int .i64)) := by have h1 := own_lit (w.drew.alloc (.cells #[.int .i64 x] 3)) 3 [] (by simp); rw [World.size_alloc] at h1; exact own_lowR h1 (Nat.le_succ _)
          have hM0 : Mk0 w ((w.drew.alloc (.cells #[.int .i64 x] 3)).alloc (.cells #[] 3)) := ((Mk.drew1 w).new _).new _
          have hsz1 := hM0.size
          refine wpAny_ready (rs := [4]) (by kernel_rfl) (by simp) ?_
          refine (AllReady.cons rfl (fun K hK => ?_) AllReady.nil)
          refine step_app (k := .i64) (by rfl) (.tmp 33) (.tmp 36) 37 (by rfl) w.heap.size 3 i0 Try.underlying37 hi hz0 hz1 hby _ [] 0 (by rfl) hA ⟨b, off, none⟩ c c (L.take c) (by rfl) (HT.out _ hM0) (by omega) hM0.size ?_
          intro v1 w1 ho1 hg1 hat1
          refine hK _ _ ?_
          clear hK K
          try simp only [Act.put, List.getElem_toArray, List.getElem_cons_succ, List.getElem_cons_zero, List.setIfInBounds_toArray, List.set_cons_zero, List.set_cons_succ]
          have hM1 := mk_grew hM0 hg1 (fun g e => (hA.lt g e).1)
          have cN := cell_grew hg1 cN0 (by simp [Value.ownBlock])
          have hsz2 := hM1.size
          refine wpAny_ready (rs := [7]) (by kernel_rfl) (by simp) ?_
          refine (AllReady.cons rfl (fun K hK => ?_) AllReady.nil)
          refine step_app (k := .i64) (by rfl) (.tmp 37) (.tmp 39) 37 (by rfl) w.heap.size 3 i0 Try.underlying37 hi hz0 hz1 hby _ ([] ++ L.take c) (0 + c) (by rfl) ho1 ⟨w.heap.size, 0, none⟩ 1 1 [x] (by rfl) (has_one cN (World.block_lt_of_cell? _ _ cN)) (by omega) hM1.size ?_
          intro v2 w2 ho2 hg2 hat2
          refine hK _ _ ?_
          clear hK K
          try simp only [Act.put, List.getElem_toArray, List.getElem_cons_succ, List.getElem_cons_zero, List.setIfInBounds_toArray, List.set_cons_zero, List.set_cons_succ]
          have hM2 := mk_grew hM1 hg2 (fun g e => (ho1.lt g e).1)
          refine wpAny_ready (rs := [11]) (by kernel_rfl) (by simp) ?_
          refine (AllReady.cons rfl (fun K hK => ?_) AllReady.nil)
          refine step_app (k := .i64) (by rfl) (.tmp 40) (.tmp 43) 37 (by rfl) w.heap.size 3 i0 Try.underlying37 hi hz0 hz1 hby _ ([] ++ L.take c ++ [x]) (0 + c + 1) (by rfl) ho2 ⟨b, off, none⟩ 0 0 [] (by rfl) (HD.out _ hM2) (by omega) hM2.size ?_
          intro v3 w3 ho3 hg3 hat3
          refine hK _ _ ?_
          clear hK K
          try simp only [Act.put, List.getElem_toArray, List.getElem_cons_succ, List.getElem_cons_zero, List.setIfInBounds_toArray, List.set_cons_zero, List.set_cons_succ]
          have hM3 := mk_grew hM2 hg3 (fun g e => (ho2.lt g e).1)
          refine wpAny_ready (rs := [12]) (by kernel_rfl) (by simp) ?_
          refine (AllReady.cons rfl (fun K hK => ?_) AllReady.nil)
          go_simp
          refine hK _ _ ?_
          clear hK K
          try simp only [Act.put, List.getElem_toArray, List.getElem_cons_succ, List.getElem_cons_zero, List.setIfInBounds_toArray, List.set_cons_zero, List.set_cons_succ]
          refine wpAny_done (by kernel_rfl) ?_ _
          have HL3 := Lib.hid ho3.1
          obtain ⟨A3, C3, rfl, hA3, hN3⟩ := ownsRow_sliceR2 ho3
          refine ‹∀ (a : Act) (w : World), _ → _› _ _ ?_
          have hw3 := (ownsRow_own ho3)
          obtain ⟨b3, o3, e3, hl3, hb3, hc3⟩ := hw3.2 (by omega)
          subst e3
          clear hl3 hb3 hc3
          go_wp2_with fail
          go_ret
          exact ⟨b3, o3, _, C3, _, rfl, hw3.low hlo, hN3, hM3, by rw [List.nil_append, ← HNE.out]; exact HP.out.1, fun y => by rw [List.nil_append, ← HNE.out]; exact HP.out.2 y, by omega⟩
      · have kcn : (c == k) = false := by simp; omega
        have HD := Lib.hid (fun (w' : World) (m : Mk0 w w') => (has_nil5 (some ⟨b, off + k, none⟩) : Has .i64 w' w'.heap.size (some ⟨b, off + k, none⟩) 0 []))
        go_wp2_with fail
        refine wp_region_any (by kernel_rfl) ?_
        change wpAny _ _ _ _ _ _ _ (World.drew _)
        refine wpAny_take (i := 1) (v := _) rfl (by kernel_rfl) (by kernel_rfl) (by kernel_rfl) (fun _ _ _ h => h) (Or.inl ⟨by rfl, fun w => by go_simp; try with_reducible rfl⟩) ?_
        try simp only [Act.put, List.getElem_toArray, List.getElem_cons_succ, List.getElem_cons_zero, List.setIfInBounds_toArray, List.set_cons_zero, List.set_cons_succ]
        refine wpAny_take (i := 2) (v := _) rfl (by kernel_rfl) (by kernel_rfl) (by kernel_rfl) (fun _ _ _ h => h) (Or.inl ⟨by rfl, fun w => by go_simp; try with_reducible rfl⟩) ?_
        try simp only [Act.put, List.getElem_toArray, List.getElem_cons_succ, List.getElem_cons_zero, List.setIfInBounds_toArray, List.set_cons_zero, List.set_cons_succ]
        refine wpAny_take (i := 3) (v := _) rfl (by kernel_rfl) (by kernel_rfl) (by kernel_rfl) (fun _ _ _ h => h) (Or.inl ⟨by rfl, fun w => by go_simp; try with_reducible rfl⟩) ?_
        try simp only [Act.put, List.getElem_toArray, List.getElem_cons_succ, List.getElem_cons_zero, List.setIfInBounds_toArray, List.set_cons_zero, List.set_cons_succ]
        refine wpAny_take (i := 5) (v := _) rfl (by kernel_rfl) (by kernel_rfl) (by kernel_rfl) (fun _ _ _ h => h) (Or.inl ⟨by rfl, fun w => by go_simp; try with_reducible rfl⟩) ?_
        try simp only [Act.put, List.getElem_toArray, List.getElem_cons_succ, List.getElem_cons_zero, List.setIfInBounds_toArray, List.set_cons_zero, List.set_cons_succ]
        refine wpAny_take (i := 8) (v := _) rfl (by kernel_rfl) (by kernel_rfl) (by kernel_rfl) (fun _ _ _ h => h) (Or.inl ⟨by rfl, fun w => by go_simp; try with_reducible rfl⟩) ?_
        try simp only [Act.put, List.getElem_toArray, List.getElem_cons_succ, List.getElem_cons_zero, List.setIfInBounds_toArray, List.set_cons_zero, List.set_cons_succ]
        refine wpAny_take (i := 9) (v := _) rfl (by kernel_rfl) (by kernel_rfl) (by kernel_rfl) (fun _ _ _ h => h) (Or.inl ⟨by rfl, fun w => by go_simp; try with_reducible rfl⟩) ?_
        try simp only [Act.put, List.getElem_toArray, List.getElem_cons_succ, List.getElem_cons_zero, List.setIfInBounds_toArray, List.set_cons_zero, List.set_cons_succ]
        refine wpAny_take (i := 10) (v := _) rfl (by kernel_rfl) (by kernel_rfl) (by kernel_rfl) (fun _ _ _ h => h) (Or.inl ⟨by rfl, fun w => by go_simp; try with_reducible rfl⟩) ?_
        try simp only [Act.put, List.getElem_toArray, List.getElem_cons_succ, List.getElem_cons_zero, List.setIfInBounds_toArray, List.set_cons_zero, List.set_cons_succ]
        refine wpAny_ready (rs := [0, 6]) (by kernel_rfl) (by simp) ?_
        refine (AllReady.cons rfl (fun K hK => ?_) (AllReady.cons rfl (fun K hK => ?_) AllReady.nil))
        · go_simp
          refine hK _ _ ?_
          clear hK K
          try simp only [Act.put, List.getElem_toArray, List.getElem_cons_succ, List.getElem_cons_zero, List.setIfInBounds_toArray, List.set_cons_zero, List.set_cons_succ]
          have hA : (w.drew.alloc (.cells #[] 3)).ownsRow w.heap.size 3 1 (.slice (some ⟨w.heap.size, 0, none⟩) 0 0) 0 (([] : List Int).map (.int .i64)) := own_lit w.drew 3 [] (by simp)
          have hM0 : Mk0 w (w.drew.alloc (.cells #[] 3)) := (Mk.drew1 w).new _
          refine wpAny_ready (rs := [4, 6]) (by kernel_rfl) (by simp) ?_
          refine (AllReady.cons rfl (fun K hK => ?_) (AllReady.cons rfl (fun K hK => ?_) AllReady.nil))
          · refine step_app (k := .i64) (by rfl) (.tmp 33) (.tmp 36) 37 (by rfl) w.heap.size 3 i0 Try.underlying37 hi hz0 hz1 hby _ [] 0 (by rfl) hA ⟨b, off, none⟩ k c (L.take k) (by rfl) (HT.out _ hM0) (by omega) hM0.size ?_
            intro v1 w1 ho1 hg1 hat1
            refine hK _ _ ?_
            clear hK K
            try simp only [Act.put, List.getElem_toArray, List.getElem_cons_succ, List.getElem_cons_zero, List.setIfInBounds_toArray, List.set_cons_zero, List.set_cons_succ]
            have hM1' := mk_grew hM0 hg1 (fun g e => (hA.lt g e).1)
            refine wpAny_ready (rs := [6]) (by kernel_rfl) (by simp) ?_
            refine (AllReady.cons rfl (fun K hK => ?_) AllReady.nil)
            go_simp
            refine hK _ _ ?_
            clear hK K
            try simp only [Act.put, List.getElem_toArray, List.getElem_cons_succ, List.getElem_cons_zero, List.setIfInBounds_toArray, List.set_cons_zero, List.set_cons_succ]
            have cN : (w1.alloc (.cells #[.int .i64 x] 3)).cell? ⟨w1.heap.size, 0, none⟩ = some (.int .i64 x) := by simp [go_sem]
            have hM1 := hM1'.new (.cells #[.int .i64 x] 3)
            replace ho1 := ho1.alloc (.cells #[.int .i64 x] 3)
            have hsz1 := hM1.size
            refine wpAny_ready (rs := [7]) (by kernel_rfl) (by simp) ?_
            refine (AllReady.cons rfl (fun K hK => ?_) AllReady.nil)
            refine step_app (k := .i64) (by rfl) (.tmp 37) (.tmp 39) 37 (by rfl) w.heap.size 3 i0 Try.underlying37 hi hz0 hz1 hby _ ([] ++ L.take k) (0 + k) (by rfl) ho1 ⟨w1.heap.size, 0, none⟩ 1 1 [x] (by rfl) (has_one cN (World.block_lt_of_cell? _ _ cN)) (by omega) hM1.size ?_
            intro v2 w2 ho2 hg2 hat2
            refine hK _ _ ?_
            clear hK K
            try simp only [Act.put, List.getElem_toArray, List.getElem_cons_succ, List.getElem_cons_zero, List.setIfInBounds_toArray, List.set_cons_zero, List.set_cons_succ]
            have hM2 := mk_grew hM1 hg2 (fun g e => (ho1.lt g e).1)
            refine wpAny_ready (rs := [11]) (by kernel_rfl) (by simp) ?_
            refine (AllReady.cons rfl (fun K hK => ?_) AllReady.nil)
            refine step_app (k := .i64) (by rfl) (.tmp 40) (.tmp 43) 37 (by rfl) w.heap.size 3 i0 Try.underlying37 hi hz0 hz1 hby _ ([] ++ L.take k ++ [x]) (0 + k + 1) (by rfl) ho2 ⟨b, off + k, none⟩ 0 (c - k) [] (by rfl) (HD.out _ hM2) (by omega) hM2.size ?_
            intro v3 w3 ho3 hg3 hat3
            refine hK _ _ ?_
            clear hK K
            try simp only [Act.put, List.getElem_toArray, List.getElem_cons_succ, List.getElem_cons_zero, List.setIfInBounds_toArray, List.set_cons_zero, List.set_cons_succ]
            have hM3 := mk_grew hM2 hg3 (fun g e => (ho2.lt g e).1)
            refine wpAny_ready (rs := [12]) (by kernel_rfl) (by simp) ?_
            refine (AllReady.cons rfl (fun K hK => ?_) AllReady.nil)
            go_simp
            refine hK _ _ ?_
            clear hK K
            try simp only [Act.put, List.getElem_toArray, List.getElem_cons_succ, List.getElem_cons_zero, List.setIfInBounds_toArray, List.set_cons_zero, List.set_cons_succ]
            refine wpAny_done (by kernel_rfl) ?_ _
            have HL3 := Lib.hid ho3.1
            obtain ⟨A3, C3, rfl, hA3, hN3⟩ := ownsRow_sliceR2 ho3
            refine ‹∀ (a : Act) (w : World), _ → _› _ _ ?_
            have hw3 := (ownsRow_own ho3)
            obtain ⟨b3, o3, e3, hl3, hb3, hc3⟩ := hw3.2 (by omega)
            subst e3
            clear hl3 hb3 hc3
            go_wp2_with fail
            go_ret
            exact ⟨b3, o3, _, C3, _, rfl, hw3.low hlo, hN3, hM3, by rw [List.nil_append, ← HNE.out]; exact HP.out.1, fun y => by rw [List.nil_append, ← HNE.out]; exact HP.out.2 y, by omega⟩
          · go_simp
            refine hK _ _ ?_
            clear hK K
            try simp only [Act.put, List.getElem_toArray, List.getElem_cons_succ, List.getElem_cons_zero, List.setIfInBounds_toArray, List.set_cons_zero, List.set_cons_succ]
            have cN0 : ((w.drew.alloc (.cells #[] 3)).alloc (.cells #[.int .i64 x] 3)).cell? ⟨w.heap.size + 1, 0, none⟩ = some (.int .i64 x) := by simp [go_sem]
            replace hA := hA.alloc (.cells #[.int .i64 x] 3)
            replace hM0 := hM0.new (.cells #[.int .i64 x] 3)
            have hsz1 := hM0.size
            refine wpAny_ready (rs := [4]) (by kernel_rfl) (by simp) ?_
            refine (AllReady.cons rfl (fun K hK => ?_) AllReady.nil)
            refine step_app (k := .i64) (by rfl) (.tmp 33) (.tmp 36) 37 (by rfl) w.heap.size 3 i0 Try.underlying37 hi hz0 hz1 hby _ [] 0 (by rfl) hA ⟨b, off, none⟩ k c (L.take k) (by rfl) (HT.out _ hM0) (by omega) hM0.size ?_
            intro v1 w1 ho1 hg1 hat1
            refine hK _ _ ?_
            clear hK K
            try simp only [Act.put, List.getElem_toArray, List.getElem_cons_succ, List.getElem_cons_zero, List.setIfInBounds_toArray, List.set_cons_zero, List.set_cons_succ]
            have hM1 := mk_grew hM0 hg1 (fun g e => (hA.lt g e).1)
            have cN := cell_grew hg1 cN0 (by simp [Value.ownBlock])
            have hsz2 := hM1.size
            refine wpAny_ready (rs := [7]) (by kernel_rfl) (by simp) ?_
            refine (AllReady.cons rfl (fun K hK => ?_) AllReady.nil)
            refine step_app (k := .i64) (by rfl) (.tmp 37) (.tmp 39) 37 (by rfl) w.heap.size 3 i0 Try.underlying37 hi hz0 hz1 hby _ ([] ++ L.take k) (0 + k) (by rfl) ho1 ⟨(w.heap.size + 1), 0, none⟩ 1 1 [x] (by rfl) (has_one cN (World.block_lt_of_cell? _ _ cN)) (by omega) hM1.size ?_
            intro v2 w2 ho2 hg2 hat2
            refine hK _ _ ?_
            clear hK K
            try simp only [Act.put, List.getElem_toArray, List.getElem_cons_succ, List.getElem_cons_zero, List.setIfInBounds_toArray, List.set_cons_zero, List.set_cons_succ]
            have hM2 := mk_grew hM1 hg2 (fun g e => (ho1.lt g e).1)
            refine wpAny_ready (rs := [11]) (by kernel_rfl) (by simp) ?_
            refine (AllReady.cons rfl (fun K hK => ?_) AllReady.nil)
            refine step_app (k := .i64) (by rfl) (.tmp 40) (.tmp 43) 37 (by rfl) w.heap.size 3 i0 Try.underlying37 hi hz0 hz1 hby _ ([] ++ L.take k ++ [x]) (0 + k + 1) (by rfl) ho2 ⟨b, off + k, none⟩ 0 (c - k) [] (by rfl) (HD.out _ hM2) (by omega) hM2.size ?_
            intro v3 w3 ho3 hg3 hat3
            refine hK _ _ ?_
            clear hK K
            try simp only [Act.put, List.getElem_toArray, List.getElem_cons_succ, List.getElem_cons_zero, List.setIfInBounds_toArray, List.set_cons_zero, List.set_cons_succ]
            have hM3 := mk_grew hM2 hg3 (fun g e => (ho2.lt g e).1)
            refine wpAny_ready (rs := [12]) (by kernel_rfl) (by simp) ?_
            refine (AllReady.cons rfl (fun K hK => ?_) AllReady.nil)
            go_simp
            refine hK _ _ ?_
            clear hK K
            try simp only [Act.put, List.getElem_toArray, List.getElem_cons_succ, List.getElem_cons_zero, List.setIfInBounds_toArray, List.set_cons_zero, List.set_cons_succ]
            refine wpAny_done (by kernel_rfl) ?_ _
            have HL3 := Lib.hid ho3.1
            obtain ⟨A3, C3, rfl, hA3, hN3⟩ := ownsRow_sliceR2 ho3
            refine ‹∀ (a : Act) (w : World), _ → _› _ _ ?_
            have hw3 := (ownsRow_own ho3)
            obtain ⟨b3, o3, e3, hl3, hb3, hc3⟩ := hw3.2 (by omega)
            subst e3
            clear hl3 hb3 hc3
            go_wp2_with fail
            go_ret
            exact ⟨b3, o3, _, C3, _, rfl, hw3.low hlo, hN3, hM3, by rw [List.nil_append, ← HNE.out]; exact HP.out.1, fun y => by rw [List.nil_append, ← HNE.out]; exact HP.out.2 y, by omega⟩
        · go_simp
          refine hK _ _ ?_
          clear hK K
          try simp only [Act.put, List.getElem_toArray, List.getElem_cons_succ, List.getElem_cons_zero, List.setIfInBounds_toArray, List.set_cons_zero, List.set_cons_succ]
          have cN0 : ((w.drew.alloc (.cells #[.int .i64 x] 3)).alloc (.cells #[] 3)).cell? ⟨w.heap.size, 0, none⟩ = some (.int .i64 x) := by simp [go_sem]
          refine wpAny_ready (rs := [0]) (by kernel_rfl) (by simp) ?_
          refine (AllReady.cons rfl (fun K hK => ?_) AllReady.nil)
          go_simp
          refine hK _ _ ?_
          clear hK K
          try simp only [Act.put, List.getElem_toArray, List.getElem_cons_succ, List.getElem_cons_zero, List.setIfInBounds_toArray, List.set_cons_zero, List.set_cons_succ]
          have hA : ((w.drew.alloc (.cells #[.int .i64 x] 3)).alloc (.cells #[] 3)).ownsRow w.heap.size 3 1 (.slice (some ⟨w.heap.size + 1, 0, none⟩) 0 0) 0 (([] : List Int).map (.int .i64)) := by have h1 := own_lit (w.drew.alloc (.cells #[.int .i64 x] 3)) 3 [] (by simp); rw [World.size_alloc] at h1; exact own_lowR h1 (Nat.le_succ _)
          have hM0 : Mk0 w ((w.drew.alloc (.cells #[.int .i64 x] 3)).alloc (.cells #[] 3)) := ((Mk.drew1 w).new _).new _
          have hsz1 := hM0.size
          refine wpAny_ready (rs := [4]) (by kernel_rfl) (by simp) ?_
          refine (AllReady.cons rfl (fun K hK => ?_) AllReady.nil)
          refine step_app (k := .i64) (by rfl) (.tmp 33) (.tmp 36) 37 (by rfl) w.heap.size 3 i0 Try.underlying37 hi hz0 hz1 hby _ [] 0 (by rfl) hA ⟨b, off, none⟩ k c (L.take k) (by rfl) (HT.out _ hM0) (by omega) hM0.size ?_
          intro v1 w1 ho1 hg1 hat1
          refine hK _ _ ?_
          clear hK K
          try simp only [Act.put, List.getElem_toArray, List.getElem_cons_succ, List.getElem_cons_zero, List.setIfInBounds_toArray, List.set_cons_zero, List.set_cons_succ]
          have hM1 := mk_grew hM0 hg1 (fun g e => (hA.lt g e).1)
          have cN := cell_grew hg1 cN0 (by simp [Value.ownBlock])
          have hsz2 := hM1.size
          refine wpAny_ready (rs := [7]) (by kernel_rfl) (by simp) ?_
          refine (AllReady.cons rfl (fun K hK => ?_) AllReady.nil)
          refine step_app (k := .i64) (by rfl) (.tmp 37) (.tmp 39) 37 (by rfl) w.heap.size 3 i0 Try.underlying37 hi hz0 hz1 hby _ ([] ++ L.take k) (0 + k) (by rfl) ho1 ⟨w.heap.size, 0, none⟩ 1 1 [x] (by rfl) (has_one cN (World.block_lt_of_cell? _ _ cN)) (by omega) hM1.size ?_
          intro v2 w2 ho2 hg2 hat2
          refine hK _ _ ?_
          clear hK K
          try simp only [Act.put, List.getElem_toArray, List.getElem_cons_succ, List.getElem_cons_zero, List.setIfInBounds_toArray, List.set_cons_zero, List.set_cons_succ]
          have hM2 := mk_grew hM1 hg2 (fun g e => (ho1.lt g e).1)
          refine wpAny_ready (rs := [11]) (by kernel_rfl) (by simp) ?_
          refine (AllReady.cons rfl (fun K hK => ?_) AllReady.nil)
          refine step_app (k := .i64) (by rfl) (.tmp 40) (.tmp 43) 37 (by rfl) w.heap.size 3 i0 Try.underlying37 hi hz0 hz1 hby _ ([] ++ L.take k ++ [x]) (0 + k + 1) (by rfl) ho2 ⟨b, off + k, none⟩ 0 (c - k) [] (by rfl) (HD.out _ hM2) (by omega) hM2.size ?_
          intro v3 w3 ho3 hg3 hat3
          refine hK _ _ ?_
          clear hK K
          try simp only [Act.put, List.getElem_toArray, List.getElem_cons_succ, List.getElem_cons_zero, List.setIfInBounds_toArray, List.set_cons_zero, List.set_cons_succ]
          have hM3 := mk_grew hM2 hg3 (fun g e => (ho2.lt g e).1)
          refine wpAny_ready (rs := [12]) (by kernel_rfl) (by simp) ?_
          refine (AllReady.cons rfl (fun K hK => ?_) AllReady.nil)
          go_simp
          refine hK _ _ ?_
          clear hK K
          try simp only [Act.put, List.getElem_toArray, List.getElem_cons_succ, List.getElem_cons_zero, List.setIfInBounds_toArray, List.set_cons_zero, List.set_cons_succ]
          refine wpAny_done (by kernel_rfl) ?_ _
          have HL3 := Lib.hid ho3.1
          obtain ⟨A3, C3, rfl, hA3, hN3⟩ := ownsRow_sliceR2 ho3
          refine ‹∀ (a : Act) (w : World), _ → _› _ _ ?_
          have hw3 := (ownsRow_own ho3)
          obtain ⟨b3, o3, e3, hl3, hb3, hc3⟩ := hw3.2 (by omega)
          subst e3
          clear hl3 hb3 hc3
          go_wp2_with fail
          go_ret
          exact ⟨b3, o3, _, C3, _, rfl, hw3.low hlo, hN3, hM3, by rw [List.nil_append, ← HNE.out]; exact HP.out.1, fun y => by rw [List.nil_append, ← HNE.out]; exact HP.out.2 y, by omega⟩

end Go.Proofs.Ytkmofhpipcodbaa
