
/- The iterator egresses. -/
import Derived.Test.YtldnfjpdhmjhoaaStepI
import Derived.Test.YtldnfjpdhmjhoaaKp
import Derived.Maps.OwnIn
import Derived.Laws.EntriesVeiled
import Derived.RangeFuncBox
import Derived.RangeFuncNested
namespace Go.Proofs.Ytldnfjpdhmjhoaa
open Go Go.Proofs Go.RowKit Go.Shelf Go.ChangeShapes Go.WideShapes Go.ChangeAt
set_option linter.unusedVariables false
attribute [local go_sem] Oper.semAt_some
theorem isCells_of {w : World} {a : Addr} {v : Value} (h : w.cell? a = some v) : ∃ o, w.heap[a.block]? = some o ∧ o.isCells = true := by
  cases ho : w.heap[a.block]? with
  | none => simp [World.cell?, ho] at h
  | some o =>
    refine ⟨o, rfl, ?_⟩
    cases o with
    | cells _ _ _ => rfl
    | _ => simp [World.cell?, ho] at h
/-- What a round keeps of the memory beyond n₀: all, but for the row that the box P9 holds. -/
def KpB (n₀ P9 : Nat) (t : TypeId) (A B : World) : Prop := A.heap.size ≤ B.heap.size ∧ ∀ vA, Boxed A P9 t vA → ∃ vB, Boxed B P9 t vB ∧ (vB.ownBlock = vA.ownBlock ∨ ∀ g, vB.ownBlock = some g → A.heap.size ≤ g) ∧ ∀ k o, n₀ ≤ k → vA.ownBlock ≠ some k → A.heap[k]? = some o → o.isCells = true → B.heap[k]? = some o
theorem KpB.t {n₀ P9 : Nat} {t : TypeId} {A B C : World} (h : KpB n₀ P9 t A B) (k : KpB n₀ P9 t B C) : KpB n₀ P9 t A C := by
  refine ⟨Nat.le_trans h.1 k.1, fun vA hA => ?_⟩
  obtain ⟨vB, hB, oB, kB⟩ := h.2 vA hA
  obtain ⟨vC, hC, oC, kC⟩ := k.2 vB hB
  refine ⟨vC, hC, ?_, fun q o hq hv ho hc => ?_⟩
  · rcases oC with oC | oC
    · rcases oB with oB | oB
      · exact .inl (oC.trans oB)
      · exact .inr fun g hg => oB g (by rw [← oC]; exact hg)
    · exact .inr fun g hg => Nat.le_trans h.1 (oC g hg)
  · refine kC q o hq ?_ (kB q o hq hv ho hc) hc
    intro e
    rcases oB with oB | oB
    · exact hv (by rw [← oB]; exact e)
    · have h1 := oB q e
      have h2 := (Array.getElem?_eq_some_iff.1 ho).1
      omega
theorem KpB.b {n₀ P9 : Nat} {t : TypeId} {w : World} (hP : P9 < w.heap.size) (W : World) (l : Nat) (o o' : Obj) (hl : w.heap.size ≤ l) (h : W.heap[l]? = some o) (h1 : o.isCells = false) (h2 : o.isWalk = false) : KpB n₀ P9 t W (W.putObj l o') := by
  have hg := grownBy_putObj' W l o'
  refine ⟨hg.size, fun vA hA => ⟨vA, (hg.block P9 hA.lt (fun e => by cases e; omega)).trans hA, .inl rfl, fun k q hk hv hq hc => (hg.block k (Array.getElem?_eq_some_iff.1 hq).1 (fun e => ?_)).trans hq⟩⟩
  cases e
  rw [h] at hq
  cases hq
  rw [h1] at hc
  cases hc
theorem KpB.mk {n₀ P9 : Nat} {t : TypeId} {W W' : World} (m : Mk0 W W') : KpB n₀ P9 t W W' := ⟨m.size, fun vA hA => ⟨vA, (m.block _ hA.lt (.inr (Nat.zero_le _))).trans hA, .inl rfl, fun k o _ _ ho _ => (m.block k (Array.getElem?_eq_some_iff.1 ho).1 (.inr (Nat.zero_le _))).trans ho⟩⟩
/-- A round that appends to the row that the box holds. -/
theorem KpB.app {n₀ P9 : Nat} {t : TypeId} {W wE w1 : World} {v v' : Value} (m : Mk0 W wE) (hv : Boxed W P9 t v) (hg : wE.grownBy w1 v.ownBlock) (hP : P9 < n₀) (hb : Boxed (w1.setCell ⟨P9, 0, none⟩ v') P9 t v') (hat : v'.ownBlock = v.ownBlock ∨ v'.ownBlock = some wE.heap.size) : KpB n₀ P9 t W (w1.setCell ⟨P9, 0, none⟩ v') := by
  refine ⟨by simp only [World.size_set]; exact Nat.le_trans m.size hg.size, fun vA hA => ?_⟩
  have e := hA.symm.trans hv
  obtain rfl : vA = v := by simpa using e
  refine ⟨v', hb, ?_, fun k o hk hvk ho _ => ?_⟩
  · rcases hat with h | h
    · exact .inl h
    · exact .inr fun g hg' => by rw [h] at hg'; cases hg'; exact m.size
  · have hlt := (Array.getElem?_eq_some_iff.1 ho).1
    exact (Below.heap_setCell w1 ⟨P9, 0, none⟩ v' k (by simp only; omega)).trans ((hg.block k (Nat.lt_of_lt_of_le hlt m.size) (fun e => hvk e.symm)).trans ((m.block k hlt (.inr (Nat.zero_le _))).trans ho))
/-- The iterator's row: in the blocks from lo to hi, as in W1; the box does not hold it. -/
def RKp (P9 : Nat) (t : TypeId) (lo hi : Nat) (W1 wr : World) : Prop := W1.heap.size ≤ wr.heap.size ∧ ∃ v, Boxed wr P9 t v ∧ (∀ g, v.ownBlock = some g → g < lo ∨ hi ≤ g) ∧ ∀ k o, lo ≤ k → k < hi → W1.heap[k]? = some o → o.isCells = true → wr.heap[k]? = some o
theorem RKp.mk {P9 lo hi : Nat} {t : TypeId} {W1 wr w' : World} (h : RKp P9 t lo hi W1 wr) (m : Mk0 wr w') : RKp P9 t lo hi W1 w' := by
  obtain ⟨h1, v, h2, h3, h4⟩ := h
  exact ⟨Nat.le_trans h1 m.size, v, (m.block _ h2.lt (.inr (Nat.zero_le _))).trans h2, h3, fun k o a b c d => (m.block k (Array.getElem?_eq_some_iff.1 (h4 k o a b c d)).1 (.inr (Nat.zero_le _))).trans (h4 k o a b c d)⟩
theorem RKp.round {P9 lo hi n₀ : Nat} {t : TypeId} {W1 wr w' : World} (h : RKp P9 t lo hi W1 wr) (hn : n₀ ≤ lo) (hh : hi ≤ W1.heap.size) (m : KpB n₀ P9 t wr w') : RKp P9 t lo hi W1 w' := by
  obtain ⟨h1, v, h2, h3, h4⟩ := h
  obtain ⟨m1, m2⟩ := m
  obtain ⟨vB, b1, b2, b3⟩ := m2 v h2
  refine ⟨Nat.le_trans h1 m1, vB, b1, fun g hg => ?_, fun k o a b c d => b3 k o (by omega) (fun e => by have := h3 k e; omega) (h4 k o a b c d) d⟩
  rcases b2 with b2 | b2
  · exact h3 g (by rw [← b2]; exact hg)
  · exact .inr (Nat.le_trans (Nat.le_trans hh h1) (b2 g hg))
theorem RKp.cell {P9 lo hi : Nat} {t : TypeId} {W1 wr : World} (h : RKp P9 t lo hi W1 wr) {p : Addr} {v : Value} (hc : W1.cell? p = some v) (hl : lo ≤ p.block) (hh : p.block < hi) : wr.cell? p = some v := by
  obtain ⟨o, ho, hi'⟩ := isCells_of hc
  exact (World.cell?_of_block ((h.2.choose_spec.2.2 _ o hl hh ho hi').trans ho.symm)).trans hc
def leaves (x : TStep) : Bool := x.eg != 0
theorem filtUp_app {α : Type} [Inhabited α] (p : α → Bool) (zs : List α) (k : Nat) : ∀ m, k ≤ m → filtUp p zs k <+: filtUp p zs m
  | 0, h => by obtain rfl : k = 0 := by omega
               exact List.prefix_refl _
  | m + 1, h => by
    by_cases e : k = m + 1
    · rw [e]; exact List.prefix_refl _
    · refine (filtUp_app p zs k m (by omega)).trans ?_
      show _ <+: (if _ then _ else _)
      split
      · exact List.prefix_append _ _
      · exact List.prefix_refl _

set_option maxRecDepth 100000 in
set_option maxHeartbeats 4000000 in
theorem egr_in (a : Option Addr) (n c : Nat) (w : World) :
    CallsIn Fence.wide 5 Try.prog 29 #[.agg #[.slice a n c]] w fun e w' => e = .returned (.func (.func 46) #[] #[.pointer (some ⟨w.heap.size, 0, none⟩)]) ∧ w' = w.alloc (.cells #[.slice a n c] 30) := by
  refine callsIn_of_wp Try.func29 rfl trivial ?_ rfl
  simp only [Try.ntmps29, List.size_toArray, List.length_cons, List.length_nil, Nat.reduceAdd, Nat.reduceSub, Array.replicate_succ, Array.replicate_zero, List.push_toArray, List.append_toArray, List.nil_append, List.cons_append]
  gi_wp2
  go_ret
  exact ⟨rfl, rfl⟩

set_option maxRecDepth 100000 in
set_option maxHeartbeats 4000000 in
theorem egr1_in (l bp P9 n₀ : Nat) (t : TypeId) (a : Option Addr) (n c B : Nat) (ps : List TPathPart) (J Jx : List TStep → World → Prop)
    (hY : ∀ pre x W, J pre W → pre.length < (pathSt ps n).length → YieldAt Fence.wide 4 Try.prog l #[.agg #[.int .i64 x.nd, .int .i64 x.ing, .int .i64 x.eg]] W fun e W' =>
      (e = .returned (.bool true) ∧ J (pre ++ [x]) W' ∧ KpB n₀ P9 t W W') ∨ (e = .returned (.bool false) ∧ Jx (pre ++ [x]) W'))
    (W : World) (hJa : AbidesFrom W.heap.size J) (hbp : W.cell? ⟨bp, 0, none⟩ = some (.slice a n c)) (hH : HasPathPart W B a n ps) (hB : B ≤ W.heap.size) (hs : szPathPart ps n ≤ 1048576) (hn₀ : n₀ ≤ W.heap.size) (v0 : Value) (hv0 : Boxed W P9 t v0) (hvb : ∀ g, v0.ownBlock = some g → g < W.heap.size) (h0 : J [] W) :
    CallsIn Fence.wide 5 Try.prog 46 #[.func (.yield l) #[] #[], .pointer (some ⟨bp, 0, none⟩)] W fun e W' => (∃ v, e = .returned v) ∧
      ((∃ ys, ys = filtUp leaves (pathSt ps n) (pathSt ps n).length ∧ J ys W') ∨ (∃ pre, pre <+: filtUp leaves (pathSt ps n) (pathSt ps n).length ∧ Jx pre W')) := by
  have hJm : ∀ ys {A B : World}, W.heap.size ≤ A.heap.size → Mk0 A B → J ys A → J ys B := fun ys A B hA m hj => hJa ys A B none hj ⟨m.os, m.tape, m.output, m.size, fun g hg _ => m.block g hg (.inr (Nat.zero_le _))⟩ (fun r e => by cases e)
  have hlenR := Nat.le_trans (pathSt_le ps n) hs
  obtain ⟨R, hR⟩ : ∃ R, Hid (R = pathSt ps n) := ⟨_, Lib.hid rfl⟩
  rw [← hR.out] at hlenR hY ⊢
  refine callsIn_of_wp Try.func46 rfl trivial ?_ rfl
  simp only [Try.ntmps46, List.size_toArray, List.length_cons, List.length_nil, Nat.reduceAdd, Nat.reduceSub, Array.replicate_succ, Array.replicate_zero, List.push_toArray, List.append_toArray, List.nil_append, List.cons_append]
  gi_wp2_with fail
  refine ⟨trivial, ?_⟩
  refine (callsIn_wide.2 (implPathSteps a n c B ps W hH hB hs)).mono ?_
  rintro e W1 ⟨A, N, C, rfl, hcc, hO, m1⟩
  rw [← hR.out] at hO
  have hNl := hO.1
  have hRK : RKp P9 t W.heap.size W1.heap.size W1 W1 := ⟨Nat.le_refl _, v0, (m1.block _ hv0.lt (.inr (Nat.zero_le _))).trans hv0, fun g hg => .inl (hvb g hg), fun _ _ _ _ h _ => h⟩
  have hJ1 := hJm [] (Nat.le_refl _) m1 h0
  have hW1 := m1.size
  have hOL : ∀ b off, A = some ⟨b, off, none⟩ → 0 < N → W.heap.size ≤ b := fun b off e hn => by
    obtain ⟨b', off', e', h1, _⟩ := hO.2 hn
    rw [e] at e'
    simp only [Option.some.injEq, Addr.mk.injEq, and_true] at e'
    omega
  have hHs := hO.has
  clear hcc hO m1
  gi_wp2_with fail
  gi_loopw [8] (fun i wr => ∃ k : Nat, k ≤ N ∧ i = .int .i64 (k : Int) ∧ RKp P9 t W.heap.size W1.heap.size W1 wr ∧ J (filtUp leaves R k) wr) (fun i _ => N - (intOf i).toNat)
  case atStart => exact ⟨0, Nat.zero_le _, rfl, hRK, hJ1⟩
  case round =>
    clear hRK hJ1
    obtain ⟨k, hk, rfl, hRK, hJ⟩ := hrel
    by_cases hlt : k < N
    · obtain ⟨b, off, x, rfl, hb, hx, c0, c1, c2⟩ := HasStep.at _ _ _ _ _ _ hHs hlt
      have hbl := hOL b off rfl (by omega)
      have d0 := hRK.cell c0 hbl hb
      have d1 := hRK.cell c1 hbl hb
      have d2 := hRK.cell c2 hbl hb
      have hbr := World.block_lt_of_cell? _ _ d0
      simp only at hbr
      have hul := filtUp_le leaves R k
      have MX := Mk.alloc wr (Obj.cells #[Value.int .i64 x.nd, Value.int .i64 x.ing, Value.int .i64 x.eg] 49)
      have e0 : (wr.alloc (Obj.cells #[Value.int .i64 x.nd, Value.int .i64 x.ing, Value.int .i64 x.eg] 49)).cell? ⟨wr.heap.size, 0, none⟩ = some (.int .i64 x.nd) := by simp [go_sem]
      have e1 : (wr.alloc (Obj.cells #[Value.int .i64 x.nd, Value.int .i64 x.ing, Value.int .i64 x.eg] 49)).cell? ⟨wr.heap.size, 1, none⟩ = some (.int .i64 x.ing) := by simp [go_sem]
      have e2 : (wr.alloc (Obj.cells #[Value.int .i64 x.nd, Value.int .i64 x.ing, Value.int .i64 x.eg] 49)).cell? ⟨wr.heap.size, 2, none⟩ = some (.int .i64 x.eg) := by simp [go_sem]
      have hRK2 := hRK.mk MX
      have hJ2 := hJm _ (Nat.le_trans hW1 hRK.1) MX hJ
      have i1 : (0 : Int) ≤ (k : Int) := by omega
      have i2 : (k : Int) < (N : Int) := by omega
      by_cases hz : x.eg = 0
      · have HE := Lib.hid (show filtUp leaves R (k + 1) = filtUp leaves R k by rw [filtUp, ← hx.out]; unfold leaves; rw [hz]; rfl)
        have g1 : (x.eg != 0) = false := by rw [hz]; rfl
        have g2 : (x.eg == 0) = true := by rw [hz]; rfl
        clear hz
        gi_wp2_with fail
        refine ⟨fun f hf => (by cases hf), ?_⟩
        gi_wp2_with fail
        go_roundw
        case rel => exact ⟨k + 1, by omega, by go_num, hRK2, by rw [HE.out]; exact hJ2⟩
        case measure => simp [intOf]; omega
      · have HE := Lib.hid (show filtUp leaves R (k + 1) = filtUp leaves R k ++ [x] by rw [filtUp, ← hx.out]; unfold leaves; rw [if_pos (by simpa using hz)])
        have g1 : (x.eg != 0) = true := by simpa using hz
        have g2 : (x.eg == 0) = false := by simpa using hz
        clear hz
        obtain ⟨fn, tmps, assign, body, hy, hR'⟩ := hY (filtUp leaves R k) x (wr.alloc (Obj.cells #[Value.int .i64 x.nd, Value.int .i64 x.ing, Value.int .i64 x.eg] 49)) hJ2 (by omega)
        gi_wp2_with fail
        refine hR'.mono ?_
        rintro e W3 (⟨rfl, hJ3, hk3⟩ | ⟨rfl, hJx3⟩)
        · have hRK3 := hRK2.round hn₀ (Nat.le_refl _) hk3
          gi_wp2_with fail
          go_roundw
          case rel => exact ⟨k + 1, by omega, by go_num, hRK3, by rw [HE.out]; exact hJ3⟩
          case measure => simp [intOf]; omega
        · gi_wp2_with fail
          refine bodyPost_ret (results_none rfl _ _ _) rfl ?_
          exact ⟨⟨_, rfl⟩, .inr ⟨filtUp leaves R k ++ [x], by rw [← HE.out]; exact filtUp_app leaves R (k + 1) _ (by omega), hJx3⟩⟩
    · obtain rfl : k = N := by omega
      gi_wp2_with fail
      go_end0
      exact ⟨⟨_, rfl⟩, .inl ⟨_, rfl, by rw [hNl]; exact hJ⟩⟩

theorem egr_stops (bp P9 : Nat) (t : TypeId) (a : Option Addr) (n c B : Nat) (ps : List TPathPart) (w : World) (hbl : bp < w.heap.size) (hbp : w.cell? ⟨bp, 0, none⟩ = some (.slice a n c)) (hH : HasPathPart w B a n ps) (hB : B ≤ w.heap.size) (hs : szPathPart ps n ≤ 1048576) (v0 : Value) (hv0 : Boxed w P9 t v0) (hvb : ∀ g, v0.ownBlock = some g → g < w.heap.size) :
    SeqStopsK Fence.wide 5 Try.prog 46 #[.pointer (some ⟨bp, 0, none⟩)] (fun x : TStep => #[Value.agg #[.int .i64 x.nd, .int .i64 x.ing, .int .i64 x.eg]]) (KpB w.heap.size P9 t) (fun ys => ys = filtUp leaves (pathSt ps n) (pathSt ps n).length) (fun pre => pre <+: filtUp leaves (pathSt ps n) (pathSt ps n).length) (pathSt ps n).length w := fun l J Jx W hW hJa _ hY h0 =>
  egr1_in l bp P9 w.heap.size t a n c B ps J Jx hY W hJa ((hW.cell (p := ⟨bp, 0, none⟩) hbl).trans hbp) (hH.mk (Mk.of_below hW) hB (.inr (Nat.le_refl _))) (Nat.le_trans hB hW.size) hs hW.size v0 ((hW.block _ hv0.lt).trans hv0) (fun g hg => Nat.lt_of_lt_of_le (hvb g hg) hW.size) h0

end Go.Proofs.Ytldnfjpdhmjhoaa
