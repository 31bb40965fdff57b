
/- The five numbers of a hop, by the program. -/
import Derived.Test.YtiphndgmgpiodaaStat
import Derived.Test.YtiphndgmgpiodaaStepA
import Derived.Test.YtiphndgmgpiodaaAppR
import Derived.Test.YtiphndgmgpiodaaInfo
namespace Go.Proofs.Ytiphndgmgpiodaa
open Go.ChangeShapes Go.WideShapes Go.ChangeAt Go.RowKit
set_option linter.unusedVariables false
set_option maxRecDepth 100000 in
set_option maxHeartbeats 4000000 in
theorem hopFieldsO (x : THop) (w : World) :
    Calls Try.prog 135 #[.agg #[.int .i64 x.nd, .int .i64 x.ing, .int .i64 x.eg, .int .i64 x.exp, .int .i64 x.mac]] w fun en w' => ∃ A c, en = .returned (.slice A 5 c) ∧ (A = none → c = 0) ∧ Own .i64 w' w.heap.size A 5 [x.nd, x.ing, x.eg, x.exp, x.mac] ∧ Mk0 w w' := by
  obtain ⟨i0, hi, hz0, hz1, hz2⟩ := info_parts infoI64
  have hby : i0.bytes ≤ 8 := by rw [hz2]; decide
  have M0 := Mk.alloc w (Obj.cells #[Value.int .i64 x.nd, Value.int .i64 x.ing, Value.int .i64 x.eg, Value.int .i64 x.exp, Value.int .i64 x.mac] 24)
  have k0 : (w.alloc (Obj.cells #[Value.int .i64 x.nd, Value.int .i64 x.ing, Value.int .i64 x.eg, Value.int .i64 x.exp, Value.int .i64 x.mac] 24)).cell? ⟨w.heap.size, 0, none⟩ = some (.int .i64 x.nd) := by simp [go_sem]
  have k1 : (w.alloc (Obj.cells #[Value.int .i64 x.nd, Value.int .i64 x.ing, Value.int .i64 x.eg, Value.int .i64 x.exp, Value.int .i64 x.mac] 24)).cell? ⟨w.heap.size, 1, none⟩ = some (.int .i64 x.ing) := by simp [go_sem]
  have k2 : (w.alloc (Obj.cells #[Value.int .i64 x.nd, Value.int .i64 x.ing, Value.int .i64 x.eg, Value.int .i64 x.exp, Value.int .i64 x.mac] 24)).cell? ⟨w.heap.size, 2, none⟩ = some (.int .i64 x.eg) := by simp [go_sem]
  have k3 : (w.alloc (Obj.cells #[Value.int .i64 x.nd, Value.int .i64 x.ing, Value.int .i64 x.eg, Value.int .i64 x.exp, Value.int .i64 x.mac] 24)).cell? ⟨w.heap.size, 3, none⟩ = some (.int .i64 x.exp) := by simp [go_sem]
  have k4 : (w.alloc (Obj.cells #[Value.int .i64 x.nd, Value.int .i64 x.ing, Value.int .i64 x.eg, Value.int .i64 x.exp, Value.int .i64 x.mac] 24)).cell? ⟨w.heap.size, 4, none⟩ = some (.int .i64 x.mac) := by simp [go_sem]
  have HX0 := Lib.hid (fun (w' : World) (m : Mk0 (w.alloc (Obj.cells #[Value.int .i64 x.nd, Value.int .i64 x.ing, Value.int .i64 x.eg, Value.int .i64 x.exp, Value.int .i64 x.mac] 24)) w') => m.cellAt k0)
  have HX1 := Lib.hid (fun (w' : World) (m : Mk0 (w.alloc (Obj.cells #[Value.int .i64 x.nd, Value.int .i64 x.ing, Value.int .i64 x.eg, Value.int .i64 x.exp, Value.int .i64 x.mac] 24)) w') => m.cellAt k1)
  have HX2 := Lib.hid (fun (w' : World) (m : Mk0 (w.alloc (Obj.cells #[Value.int .i64 x.nd, Value.int .i64 x.ing, Value.int .i64 x.eg, Value.int .i64 x.exp, Value.int .i64 x.mac] 24)) w') => m.cellAt k2)
  have HX3 := Lib.hid (fun (w' : World) (m : Mk0 (w.alloc (Obj.cells #[Value.int .i64 x.nd, Value.int .i64 x.ing, Value.int .i64 x.eg, Value.int .i64 x.exp, Value.int .i64 x.mac] 24)) w') => m.cellAt k3)
  have HX4 := Lib.hid (fun (w' : World) (m : Mk0 (w.alloc (Obj.cells #[Value.int .i64 x.nd, Value.int .i64 x.ing, Value.int .i64 x.eg, Value.int .i64 x.exp, Value.int .i64 x.mac] 24)) w') => m.cellAt k4)
  clear k0 k1 k2 k3 k4
  go_enter Try.func135, Try.ntmps135
  go_wp2_with fail
  refine wp_region_any (by kernel_rfl) ?_
  change wpAny _ _ _ _ _ _ _ (World.drew (w.alloc (Obj.cells #[Value.int .i64 x.nd, Value.int .i64 x.ing, Value.int .i64 x.eg, Value.int .i64 x.exp, Value.int .i64 x.mac] 24)))
  have hM0 : Mk0 (w.alloc (Obj.cells #[Value.int .i64 x.nd, Value.int .i64 x.ing, Value.int .i64 x.eg, Value.int .i64 x.exp, Value.int .i64 x.mac] 24)) (w.alloc (Obj.cells #[Value.int .i64 x.nd, Value.int .i64 x.ing, Value.int .i64 x.eg, Value.int .i64 x.exp, Value.int .i64 x.mac] 24)).drew := Mk.drew1 _
  generalize (w.alloc (Obj.cells #[Value.int .i64 x.nd, Value.int .i64 x.ing, Value.int .i64 x.eg, Value.int .i64 x.exp, Value.int .i64 x.mac] 24)).drew = u0 at *
  refine wpAny_take (i := 2) (v := _) rfl (by kernel_rfl) (by kernel_rfl) (by kernel_rfl) (fun _ _ _ h => h) (Or.inl ⟨by rfl, fun w => by go_simp; try with_reducible rfl⟩) ?_
  try simp only [Act.put, List.getElem_toArray, List.getElem_cons_succ, List.getElem_cons_zero, List.setIfInBounds_toArray, List.set_cons_zero, List.set_cons_succ]
  refine wpAny_ready (rs := [0, 3]) (by kernel_rfl) (by simp) ?_
  refine (AllReady.cons rfl (fun K hK => ?_) (AllReady.cons rfl (fun K hK => ?_) AllReady.nil))
  · have d0 := HX0.out _ hM0
    have d1 := HX1.out _ hM0
    have d2 := HX2.out _ hM0
    have d3 := HX3.out _ hM0
    have d4 := HX4.out _ hM0
    go_simp
    refine hK _ _ ?_
    clear hK K
    try simp only [Act.put, List.getElem_toArray, List.getElem_cons_succ, List.getElem_cons_zero, List.setIfInBounds_toArray, List.set_cons_zero, List.set_cons_succ]
    clear d0 d1 d2 d3 d4
    refine wpAny_ready (rs := [1, 3]) (by kernel_rfl) (by simp) ?_
    refine (AllReady.cons rfl (fun K hK => ?_) (AllReady.cons rfl (fun K hK => ?_) AllReady.nil))
    · go_simp
      go_at_call 148
      refine (hopStat x _).mono ?_
      rintro e u1 ⟨rfl, hA, ms⟩
      first | refine hK _ _ ?_ | refine ⟨_, rfl, hK _ _ ?_⟩ | skip
      clear hK K
      try simp only [Act.put, List.getElem_toArray, List.getElem_cons_succ, List.getElem_cons_zero, List.setIfInBounds_toArray, List.set_cons_zero, List.set_cons_succ]
      replace hA := own_lowR hA hM0.size
      have hM1 := hM0.trans ms
      refine wpAny_ready (rs := [3]) (by kernel_rfl) (by simp) ?_
      refine (AllReady.cons rfl (fun K hK => ?_) AllReady.nil)
      have d4 := HX4.out _ hM1
      go_simp
      refine hK _ _ ?_
      clear hK K
      try simp only [Act.put, List.getElem_toArray, List.getElem_cons_succ, List.getElem_cons_zero, List.setIfInBounds_toArray, List.set_cons_zero, List.set_cons_succ]
      clear d4
      refine wpAny_ready (rs := [4]) (by kernel_rfl) (by simp) ?_
      refine (AllReady.cons rfl (fun K hK => ?_) AllReady.nil)
      go_simp
      refine hK _ _ ?_
      clear hK K
      try simp only [Act.put, List.getElem_toArray, List.getElem_cons_succ, List.getElem_cons_zero, List.setIfInBounds_toArray, List.set_cons_zero, List.set_cons_succ]
      have hM2 : Mk0 (w.alloc (Obj.cells #[Value.int .i64 x.nd, Value.int .i64 x.ing, Value.int .i64 x.eg, Value.int .i64 x.exp, Value.int .i64 x.mac] 24)) (u1.alloc (.cells #[.int .i64 x.mac] 3)) := hM1.new _
      have cN : (u1.alloc (.cells #[.int .i64 x.mac] 3)).cell? ⟨u1.heap.size, 0, none⟩ = some (.int .i64 x.mac) := by simp [go_sem]
      replace hA := hA.alloc (.cells #[.int .i64 x.mac] 3)
      generalize u1.alloc (.cells #[.int .i64 x.mac] 3) = u2 at *
      refine wpAny_ready (rs := [5]) (by kernel_rfl) (by simp) ?_
      refine (AllReady.cons rfl (fun K hK => ?_) AllReady.nil)
      refine step_app (k := .i64) (by rfl) (.tmp 4) (.tmp 7) 46 (by rfl) (w.alloc (Obj.cells #[Value.int .i64 x.nd, Value.int .i64 x.ing, Value.int .i64 x.eg, Value.int .i64 x.exp, Value.int .i64 x.mac] 24)).heap.size 3 i0 Try.underlying46 hi hz0 hz1 hby _ [x.nd, x.ing, x.eg, x.exp] 4 (by rfl) hA ⟨u1.heap.size, 0, none⟩ 1 1 [x.mac] (by rfl) (has_one cN (World.block_lt_of_cell? _ _ cN)) (by omega) hM2.size ?_
      intro v3 u3 ho3 hg3 hat3
      refine hK _ _ ?_
      clear hK K
      try simp only [Act.put, List.getElem_toArray, List.getElem_cons_succ, List.getElem_cons_zero, List.setIfInBounds_toArray, List.set_cons_zero, List.set_cons_succ]
      have hM3 := mk_grew hM2 hg3 (fun g e => (hA.lt g e).1)
      refine wpAny_ready (rs := [6]) (by kernel_rfl) (by simp) ?_
      refine (AllReady.cons rfl (fun K hK => ?_) AllReady.nil)
      go_simp
      refine hK _ _ ?_
      clear hK K
      try simp only [Act.put, List.getElem_toArray, List.getElem_cons_succ, List.getElem_cons_zero, List.setIfInBounds_toArray, List.set_cons_zero, List.set_cons_succ]
      refine wpAny_done (by kernel_rfl) ?_ _
      obtain ⟨A3, C3, rfl, hA3, hN3⟩ := ownsRow_sliceR2 ho3
      refine ‹∀ (a : Act) (w : World), _ → _› _ _ ?_
      have HH := Lib.hid ((ownsRow_own ho3).low M0.size)
      clear ho3
      go_wp2_with fail
      go_ret
      exact ⟨A3, C3, rfl, hA3, HH.out, M0.trans hM3⟩
    · have d4 := HX4.out _ hM0
      go_simp
      refine hK _ _ ?_
      clear hK K
      try simp only [Act.put, List.getElem_toArray, List.getElem_cons_succ, List.getElem_cons_zero, List.setIfInBounds_toArray, List.set_cons_zero, List.set_cons_succ]
      clear d4
      refine wpAny_ready (rs := [1, 4]) (by kernel_rfl) (by simp) ?_
      refine (AllReady.cons rfl (fun K hK => ?_) (AllReady.cons rfl (fun K hK => ?_) AllReady.nil))
      · go_simp
        go_at_call 148
        refine (hopStat x _).mono ?_
        rintro e u1 ⟨rfl, hA, ms⟩
        first | refine hK _ _ ?_ | refine ⟨_, rfl, hK _ _ ?_⟩ | skip
        clear hK K
        try simp only [Act.put, List.getElem_toArray, List.getElem_cons_succ, List.getElem_cons_zero, List.setIfInBounds_toArray, List.set_cons_zero, List.set_cons_succ]
        replace hA := own_lowR hA hM0.size
        have hM1 := hM0.trans ms
        refine wpAny_ready (rs := [4]) (by kernel_rfl) (by simp) ?_
        refine (AllReady.cons rfl (fun K hK => ?_) AllReady.nil)
        go_simp
        refine hK _ _ ?_
        clear hK K
        try simp only [Act.put, List.getElem_toArray, List.getElem_cons_succ, List.getElem_cons_zero, List.setIfInBounds_toArray, List.set_cons_zero, List.set_cons_succ]
        have hM2 : Mk0 (w.alloc (Obj.cells #[Value.int .i64 x.nd, Value.int .i64 x.ing, Value.int .i64 x.eg, Value.int .i64 x.exp, Value.int .i64 x.mac] 24)) (u1.alloc (.cells #[.int .i64 x.mac] 3)) := hM1.new _
        have cN : (u1.alloc (.cells #[.int .i64 x.mac] 3)).cell? ⟨u1.heap.size, 0, none⟩ = some (.int .i64 x.mac) := by simp [go_sem]
        replace hA := hA.alloc (.cells #[.int .i64 x.mac] 3)
        generalize u1.alloc (.cells #[.int .i64 x.mac] 3) = u2 at *
        refine wpAny_ready (rs := [5]) (by kernel_rfl) (by simp) ?_
        refine (AllReady.cons rfl (fun K hK => ?_) AllReady.nil)
        refine step_app (k := .i64) (by rfl) (.tmp 4) (.tmp 7) 46 (by rfl) (w.alloc (Obj.cells #[Value.int .i64 x.nd, Value.int .i64 x.ing, Value.int .i64 x.eg, Value.int .i64 x.exp, Value.int .i64 x.mac] 24)).heap.size 3 i0 Try.underlying46 hi hz0 hz1 hby _ [x.nd, x.ing, x.eg, x.exp] 4 (by rfl) hA ⟨u1.heap.size, 0, none⟩ 1 1 [x.mac] (by rfl) (has_one cN (World.block_lt_of_cell? _ _ cN)) (by omega) hM2.size ?_
        intro v3 u3 ho3 hg3 hat3
        refine hK _ _ ?_
        clear hK K
        try simp only [Act.put, List.getElem_toArray, List.getElem_cons_succ, List.getElem_cons_zero, List.setIfInBounds_toArray, List.set_cons_zero, List.set_cons_succ]
        have hM3 := mk_grew hM2 hg3 (fun g e => (hA.lt g e).1)
        refine wpAny_ready (rs := [6]) (by kernel_rfl) (by simp) ?_
        refine (AllReady.cons rfl (fun K hK => ?_) AllReady.nil)
        go_simp
        refine hK _ _ ?_
        clear hK K
        try simp only [Act.put, List.getElem_toArray, List.getElem_cons_succ, List.getElem_cons_zero, List.setIfInBounds_toArray, List.set_cons_zero, List.set_cons_succ]
        refine wpAny_done (by kernel_rfl) ?_ _
        obtain ⟨A3, C3, rfl, hA3, hN3⟩ := ownsRow_sliceR2 ho3
        refine ‹∀ (a : Act) (w : World), _ → _› _ _ ?_
        have HH := Lib.hid ((ownsRow_own ho3).low M0.size)
        clear ho3
        go_wp2_with fail
        go_ret
        exact ⟨A3, C3, rfl, hA3, HH.out, M0.trans hM3⟩
      · go_simp
        refine hK _ _ ?_
        clear hK K
        try simp only [Act.put, List.getElem_toArray, List.getElem_cons_succ, List.getElem_cons_zero, List.setIfInBounds_toArray, List.set_cons_zero, List.set_cons_succ]
        have hM1 : Mk0 (w.alloc (Obj.cells #[Value.int .i64 x.nd, Value.int .i64 x.ing, Value.int .i64 x.eg, Value.int .i64 x.exp, Value.int .i64 x.mac] 24)) (u0.alloc (.cells #[.int .i64 x.mac] 3)) := hM0.new _
        have cN : (u0.alloc (.cells #[.int .i64 x.mac] 3)).cell? ⟨u0.heap.size, 0, none⟩ = some (.int .i64 x.mac) := by simp [go_sem]
        generalize u0.alloc (.cells #[.int .i64 x.mac] 3) = u1 at *
        refine wpAny_ready (rs := [1]) (by kernel_rfl) (by simp) ?_
        refine (AllReady.cons rfl (fun K hK => ?_) AllReady.nil)
        go_simp
        go_at_call 148
        refine (hopStat x _).mono ?_
        rintro e u2 ⟨rfl, hA, ms⟩
        first | refine hK _ _ ?_ | refine ⟨_, rfl, hK _ _ ?_⟩ | skip
        clear hK K
        try simp only [Act.put, List.getElem_toArray, List.getElem_cons_succ, List.getElem_cons_zero, List.setIfInBounds_toArray, List.set_cons_zero, List.set_cons_succ]
        replace hA := own_lowR hA hM1.size
        have hM2 := hM1.trans ms
        replace cN := ms.cellAt cN
        refine wpAny_ready (rs := [5]) (by kernel_rfl) (by simp) ?_
        refine (AllReady.cons rfl (fun K hK => ?_) AllReady.nil)
        refine step_app (k := .i64) (by rfl) (.tmp 4) (.tmp 7) 46 (by rfl) (w.alloc (Obj.cells #[Value.int .i64 x.nd, Value.int .i64 x.ing, Value.int .i64 x.eg, Value.int .i64 x.exp, Value.int .i64 x.mac] 24)).heap.size 3 i0 Try.underlying46 hi hz0 hz1 hby _ [x.nd, x.ing, x.eg, x.exp] 4 (by rfl) hA ⟨u0.heap.size, 0, none⟩ 1 1 [x.mac] (by rfl) (has_one cN (World.block_lt_of_cell? _ _ cN)) (by omega) hM2.size ?_
        intro v3 u3 ho3 hg3 hat3
        refine hK _ _ ?_
        clear hK K
        try simp only [Act.put, List.getElem_toArray, List.getElem_cons_succ, List.getElem_cons_zero, List.setIfInBounds_toArray, List.set_cons_zero, List.set_cons_succ]
        have hM3 := mk_grew hM2 hg3 (fun g e => (hA.lt g e).1)
        refine wpAny_ready (rs := [6]) (by kernel_rfl) (by simp) ?_
        refine (AllReady.cons rfl (fun K hK => ?_) AllReady.nil)
        go_simp
        refine hK _ _ ?_
        clear hK K
        try simp only [Act.put, List.getElem_toArray, List.getElem_cons_succ, List.getElem_cons_zero, List.setIfInBounds_toArray, List.set_cons_zero, List.set_cons_succ]
        refine wpAny_done (by kernel_rfl) ?_ _
        obtain ⟨A3, C3, rfl, hA3, hN3⟩ := ownsRow_sliceR2 ho3
        refine ‹∀ (a : Act) (w : World), _ → _› _ _ ?_
        have HH := Lib.hid ((ownsRow_own ho3).low M0.size)
        clear ho3
        go_wp2_with fail
        go_ret
        exact ⟨A3, C3, rfl, hA3, HH.out, M0.trans hM3⟩
  · have d4 := HX4.out _ hM0
    go_simp
    refine hK _ _ ?_
    clear hK K
    try simp only [Act.put, List.getElem_toArray, List.getElem_cons_succ, List.getElem_cons_zero, List.setIfInBounds_toArray, List.set_cons_zero, List.set_cons_succ]
    clear d4
    refine wpAny_ready (rs := [0, 4]) (by kernel_rfl) (by simp) ?_
    refine (AllReady.cons rfl (fun K hK => ?_) (AllReady.cons rfl (fun K hK => ?_) AllReady.nil))
    · have d0 := HX0.out _ hM0
      have d1 := HX1.out _ hM0
      have d2 := HX2.out _ hM0
      have d3 := HX3.out _ hM0
      have d4 := HX4.out _ hM0
      go_simp
      refine hK _ _ ?_
      clear hK K
      try simp only [Act.put, List.getElem_toArray, List.getElem_cons_succ, List.getElem_cons_zero, List.setIfInBounds_toArray, List.set_cons_zero, List.set_cons_succ]
      clear d0 d1 d2 d3 d4
      refine wpAny_ready (rs := [1, 4]) (by kernel_rfl) (by simp) ?_
      refine (AllReady.cons rfl (fun K hK => ?_) (AllReady.cons rfl (fun K hK => ?_) AllReady.nil))
      · go_simp
        go_at_call 148
        refine (hopStat x _).mono ?_
        rintro e u1 ⟨rfl, hA, ms⟩
        first | refine hK _ _ ?_ | refine ⟨_, rfl, hK _ _ ?_⟩ | skip
        clear hK K
        try simp only [Act.put, List.getElem_toArray, List.getElem_cons_succ, List.getElem_cons_zero, List.setIfInBounds_toArray, List.set_cons_zero, List.set_cons_succ]
        replace hA := own_lowR hA hM0.size
        have hM1 := hM0.trans ms
        refine wpAny_ready (rs := [4]) (by kernel_rfl) (by simp) ?_
        refine (AllReady.cons rfl (fun K hK => ?_) AllReady.nil)
        go_simp
        refine hK _ _ ?_
        clear hK K
        try simp only [Act.put, List.getElem_toArray, List.getElem_cons_succ, List.getElem_cons_zero, List.setIfInBounds_toArray, List.set_cons_zero, List.set_cons_succ]
        have hM2 : Mk0 (w.alloc (Obj.cells #[Value.int .i64 x.nd, Value.int .i64 x.ing, Value.int .i64 x.eg, Value.int .i64 x.exp, Value.int .i64 x.mac] 24)) (u1.alloc (.cells #[.int .i64 x.mac] 3)) := hM1.new _
        have cN : (u1.alloc (.cells #[.int .i64 x.mac] 3)).cell? ⟨u1.heap.size, 0, none⟩ = some (.int .i64 x.mac) := by simp [go_sem]
        replace hA := hA.alloc (.cells #[.int .i64 x.mac] 3)
        generalize u1.alloc (.cells #[.int .i64 x.mac] 3) = u2 at *
        refine wpAny_ready (rs := [5]) (by kernel_rfl) (by simp) ?_
        refine (AllReady.cons rfl (fun K hK => ?_) AllReady.nil)
        refine step_app (k := .i64) (by rfl) (.tmp 4) (.tmp 7) 46 (by rfl) (w.alloc (Obj.cells #[Value.int .i64 x.nd, Value.int .i64 x.ing, Value.int .i64 x.eg, Value.int .i64 x.exp, Value.int .i64 x.mac] 24)).heap.size 3 i0 Try.underlying46 hi hz0 hz1 hby _ [x.nd, x.ing, x.eg, x.exp] 4 (by rfl) hA ⟨u1.heap.size, 0, none⟩ 1 1 [x.mac] (by rfl) (has_one cN (World.block_lt_of_cell? _ _ cN)) (by omega) hM2.size ?_
        intro v3 u3 ho3 hg3 hat3
        refine hK _ _ ?_
        clear hK K
        try simp only [Act.put, List.getElem_toArray, List.getElem_cons_succ, List.getElem_cons_zero, List.setIfInBounds_toArray, List.set_cons_zero, List.set_cons_succ]
        have hM3 := mk_grew hM2 hg3 (fun g e => (hA.lt g e).1)
        refine wpAny_ready (rs := [6]) (by kernel_rfl) (by simp) ?_
        refine (AllReady.cons rfl (fun K hK => ?_) AllReady.nil)
        go_simp
        refine hK _ _ ?_
        clear hK K
        try simp only [Act.put, List.getElem_toArray, List.getElem_cons_succ, List.getElem_cons_zero, List.setIfInBounds_toArray, List.set_cons_zero, List.set_cons_succ]
        refine wpAny_done (by kernel_rfl) ?_ _
        obtain ⟨A3, C3, rfl, hA3, hN3⟩ := ownsRow_sliceR2 ho3
        refine ‹∀ (a : Act) (w : World), _ → _› _ _ ?_
        have HH := Lib.hid ((ownsRow_own ho3).low M0.size)
        clear ho3
        go_wp2_with fail
        go_ret
        exact ⟨A3, C3, rfl, hA3, HH.out, M0.trans hM3⟩
      · go_simp
        refine hK _ _ ?_
        clear hK K
        try simp only [Act.put, List.getElem_toArray, List.getElem_cons_succ, List.getElem_cons_zero, List.setIfInBounds_toArray, List.set_cons_zero, List.set_cons_succ]
        have hM1 : Mk0 (w.alloc (Obj.cells #[Value.int .i64 x.nd, Value.int .i64 x.ing, Value.int .i64 x.eg, Value.int .i64 x.exp, Value.int .i64 x.mac] 24)) (u0.alloc (.cells #[.int .i64 x.mac] 3)) := hM0.new _
        have cN : (u0.alloc (.cells #[.int .i64 x.mac] 3)).cell? ⟨u0.heap.size, 0, none⟩ = some (.int .i64 x.mac) := by simp [go_sem]
        generalize u0.alloc (.cells #[.int .i64 x.mac] 3) = u1 at *
        refine wpAny_ready (rs := [1]) (by kernel_rfl) (by simp) ?_
        refine (AllReady.cons rfl (fun K hK => ?_) AllReady.nil)
        go_simp
        go_at_call 148
        refine (hopStat x _).mono ?_
        rintro e u2 ⟨rfl, hA, ms⟩
        first | refine hK _ _ ?_ | refine ⟨_, rfl, hK _ _ ?_⟩ | skip
        clear hK K
        try simp only [Act.put, List.getElem_toArray, List.getElem_cons_succ, List.getElem_cons_zero, List.setIfInBounds_toArray, List.set_cons_zero, List.set_cons_succ]
        replace hA := own_lowR hA hM1.size
        have hM2 := hM1.trans ms
        replace cN := ms.cellAt cN
        refine wpAny_ready (rs := [5]) (by kernel_rfl) (by simp) ?_
        refine (AllReady.cons rfl (fun K hK => ?_) AllReady.nil)
        refine step_app (k := .i64) (by rfl) (.tmp 4) (.tmp 7) 46 (by rfl) (w.alloc (Obj.cells #[Value.int .i64 x.nd, Value.int .i64 x.ing, Value.int .i64 x.eg, Value.int .i64 x.exp, Value.int .i64 x.mac] 24)).heap.size 3 i0 Try.underlying46 hi hz0 hz1 hby _ [x.nd, x.ing, x.eg, x.exp] 4 (by rfl) hA ⟨u0.heap.size, 0, none⟩ 1 1 [x.mac] (by rfl) (has_one cN (World.block_lt_of_cell? _ _ cN)) (by omega) hM2.size ?_
        intro v3 u3 ho3 hg3 hat3
        refine hK _ _ ?_
        clear hK K
        try simp only [Act.put, List.getElem_toArray, List.getElem_cons_succ, List.getElem_cons_zero, List.setIfInBounds_toArray, List.set_cons_zero, List.set_cons_succ]
        have hM3 := mk_grew hM2 hg3 (fun g e => (hA.lt g e).1)
        refine wpAny_ready (rs := [6]) (by kernel_rfl) (by simp) ?_
        refine (AllReady.cons rfl (fun K hK => ?_) AllReady.nil)
        go_simp
        refine hK _ _ ?_
        clear hK K
        try simp only [Act.put, List.getElem_toArray, List.getElem_cons_succ, List.getElem_cons_zero, List.setIfInBounds_toArray, List.set_cons_zero, List.set_cons_succ]
        refine wpAny_done (by kernel_rfl) ?_ _
        obtain ⟨A3, C3, rfl, hA3, hN3⟩ := ownsRow_sliceR2 ho3
        refine ‹∀ (a : Act) (w : World), _ → _› _ _ ?_
        have HH := Lib.hid ((ownsRow_own ho3).low M0.size)
        clear ho3
        go_wp2_with fail
        go_ret
        exact ⟨A3, C3, rfl, hA3, HH.out, M0.trans hM3⟩
    · go_simp
      refine hK _ _ ?_
      clear hK K
      try simp only [Act.put, List.getElem_toArray, List.getElem_cons_succ, List.getElem_cons_zero, List.setIfInBounds_toArray, List.set_cons_zero, List.set_cons_succ]
      have hM1 : Mk0 (w.alloc (Obj.cells #[Value.int .i64 x.nd, Value.int .i64 x.ing, Value.int .i64 x.eg, Value.int .i64 x.exp, Value.int .i64 x.mac] 24)) (u0.alloc (.cells #[.int .i64 x.mac] 3)) := hM0.new _
      have cN : (u0.alloc (.cells #[.int .i64 x.mac] 3)).cell? ⟨u0.heap.size, 0, none⟩ = some (.int .i64 x.mac) := by simp [go_sem]
      generalize u0.alloc (.cells #[.int .i64 x.mac] 3) = u1 at *
      refine wpAny_ready (rs := [0]) (by kernel_rfl) (by simp) ?_
      refine (AllReady.cons rfl (fun K hK => ?_) AllReady.nil)
      have d0 := HX0.out _ hM1
      have d1 := HX1.out _ hM1
      have d2 := HX2.out _ hM1
      have d3 := HX3.out _ hM1
      have d4 := HX4.out _ hM1
      go_simp
      refine hK _ _ ?_
      clear hK K
      try simp only [Act.put, List.getElem_toArray, List.getElem_cons_succ, List.getElem_cons_zero, List.setIfInBounds_toArray, List.set_cons_zero, List.set_cons_succ]
      clear d0 d1 d2 d3 d4
      refine wpAny_ready (rs := [1]) (by kernel_rfl) (by simp) ?_
      refine (AllReady.cons rfl (fun K hK => ?_) AllReady.nil)
      go_simp
      go_at_call 148
      refine (hopStat x _).mono ?_
      rintro e u2 ⟨rfl, hA, ms⟩
      first | refine hK _ _ ?_ | refine ⟨_, rfl, hK _ _ ?_⟩ | skip
      clear hK K
      try simp only [Act.put, List.getElem_toArray, List.getElem_cons_succ, List.getElem_cons_zero, List.setIfInBounds_toArray, List.set_cons_zero, List.set_cons_succ]
      replace hA := own_lowR hA hM1.size
      have hM2 := hM1.trans ms
      replace cN := ms.cellAt cN
      refine wpAny_ready (rs := [5]) (by kernel_rfl) (by simp) ?_
      refine (AllReady.cons rfl (fun K hK => ?_) AllReady.nil)
      refine step_app (k := .i64) (by rfl) (.tmp 4) (.tmp 7) 46 (by rfl) (w.alloc (Obj.cells #[Value.int .i64 x.nd, Value.int .i64 x.ing, Value.int .i64 x.eg, Value.int .i64 x.exp, Value.int .i64 x.mac] 24)).heap.size 3 i0 Try.underlying46 hi hz0 hz1 hby _ [x.nd, x.ing, x.eg, x.exp] 4 (by rfl) hA ⟨u0.heap.size, 0, none⟩ 1 1 [x.mac] (by rfl) (has_one cN (World.block_lt_of_cell? _ _ cN)) (by omega) hM2.size ?_
      intro v3 u3 ho3 hg3 hat3
      refine hK _ _ ?_
      clear hK K
      try simp only [Act.put, List.getElem_toArray, List.getElem_cons_succ, List.getElem_cons_zero, List.setIfInBounds_toArray, List.set_cons_zero, List.set_cons_succ]
      have hM3 := mk_grew hM2 hg3 (fun g e => (hA.lt g e).1)
      refine wpAny_ready (rs := [6]) (by kernel_rfl) (by simp) ?_
      refine (AllReady.cons rfl (fun K hK => ?_) AllReady.nil)
      go_simp
      refine hK _ _ ?_
      clear hK K
      try simp only [Act.put, List.getElem_toArray, List.getElem_cons_succ, List.getElem_cons_zero, List.setIfInBounds_toArray, List.set_cons_zero, List.set_cons_succ]
      refine wpAny_done (by kernel_rfl) ?_ _
      obtain ⟨A3, C3, rfl, hA3, hN3⟩ := ownsRow_sliceR2 ho3
      refine ‹∀ (a : Act) (w : World), _ → _› _ _ ?_
      have HH := Lib.hid ((ownsRow_own ho3).low M0.size)
      clear ho3
      go_wp2_with fail
      go_ret
      exact ⟨A3, C3, rfl, hA3, HH.out, M0.trans hM3⟩
theorem hopFields (x : THop) (w : World) :
    Calls Try.prog 135 #[.agg #[.int .i64 x.nd, .int .i64 x.ing, .int .i64 x.eg, .int .i64 x.exp, .int .i64 x.mac]] w fun en w' => ∃ A c, en = .returned (.slice A 5 c) ∧ (A = none → c = 0) ∧ Has .i64 w' w'.heap.size A 5 [x.nd, x.ing, x.eg, x.exp, x.mac] ∧ Mk0 w w' :=
  (hopFieldsO x w).mono fun en w' ⟨A, c, h1, h2, h3, h4⟩ => ⟨A, c, h1, h2, h3.has, h4⟩
end Go.Proofs.Ytiphndgmgpiodaa
