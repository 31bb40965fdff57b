
/- As XFk, with a ghost state: what the region has made so far (blocks of boxes that lie about), on which the facts may hang. -/
import Derived.Test.YtdlafigjkefllaaFk
namespace Go.Proofs.Ytdlafigjkefllaa
open Go
set_option linter.unusedVariables false
section
variable {P : Program} {ops : Array Oper} {Q : Exit → Act → World → Prop} {G : Type} {S : G → World → Prop} {F : G → Nat → Value → World → Prop} {X : G → World → G → World → Prop}
/-- What a step owes. -/
def StepG (P : Program) (ops : Array Oper) (S : G → World → Prop) (F : G → Nat → Value → World → Prop) (X : G → World → G → World → Prop) (k : Nat) (o : Oper) (a : Act) : Prop :=
  ∀ g w, S g w → (∀ j, edgeB o j = true → F g j (valAt ops a j) w) →
    Region.wanted o (yielded ops a.tmps) = true ∧ o.wp P a w (fun a' w' => a'.defers = a.defers ∧ ∃ g', S g' w' ∧ X g w g' w' ∧ ∃ u, a' = a.put o.dst u ∧ F g' k (valAt ops (a.put o.dst u) k) w') noOut
/-- A step that reads no memory and makes none. -/
def PureG (P : Program) (ops : Array Oper) (S : G → World → Prop) (F : G → Nat → Value → World → Prop) (k : Nat) (o : Oper) (a : Act) : Prop :=
  ∀ g w, S g w → (∀ j, edgeB o j = true → F g j (valAt ops a j) w) →
    Region.wanted o (yielded ops a.tmps) = true ∧ ∃ v, (∀ w', (execOp a.eval o).run P w' = .ok (.value v) w') ∧ F g k (valAt ops (a.put o.dst v) k) w
def WkG (P : Program) (ops : Array Oper) (T : Act → World → Prop) (S : G → World → Prop) (F : G → Nat → Value → World → Prop) (X : G → World → G → World → Prop) (lz kt : Nat) : Nat → Nat → Act → Prop
  | 0, _, a => ∀ g w, S g w → (∀ j, j < kt → F g j (valAt ops a j) w) → T a w
  | m + 1, k, a => ∃ o, ops[k]? = some o ∧ (StepG P ops S F X k o a ∧ (k = lz → PureG P ops S F k o a)) ∧ ∀ v, WkG P ops T S F X lz kt m (k + 1) (a.put o.dst v)
section
variable {T : Act → World → Prop} {lz kt m k : Nat} {a : Act} {o : Oper}
theorem WkG.value {d : Tmp} (hz : k ≠ lz) (ho : ops[k]? = some o) (hd : o.dst = some d) (hlt : d < a.tmps.size) (hg : o.guard = none)
    (hv : ∀ g w, S g w → (∀ j, edgeB o j = true → F g j (valAt ops a j) w) → ∃ v w' g', (execOp a.eval o).run P w = .ok (.value v) w' ∧ S g' w' ∧ X g w g' w' ∧ F g' k v w')
    (h : ∀ v, WkG P ops T S F X lz kt m (k + 1) (a.put o.dst v)) : WkG P ops T S F X lz kt (m + 1) k a :=
  ⟨o, ho, ⟨fun g w hS hF => ⟨by simp [Region.wanted, hg], by
    obtain ⟨v, w', g', he, hS', hM, hF'⟩ := hv g w hS hF
    unfold Oper.wp
    rw [he]
    exact ⟨put_defers, g', hS', hM, v, rfl, by rw [valAt_put ho hd hlt]; exact hF'⟩⟩, fun e => absurd e hz⟩, h⟩
theorem WkG.call {d : Tmp} (hz : k ≠ lz) (ho : ops[k]? = some o) (hd : o.dst = some d) (hlt : d < a.tmps.size) (hg : o.guard = none)
    (hv : ∀ g w, S g w → (∀ j, edgeB o j = true → F g j (valAt ops a j) w) → ∃ f args, (execOp a.eval o).run P w = .ok (.enter f args) w ∧ Calls P f args w fun e w' => ∃ v g', e = .returned v ∧ S g' w' ∧ X g w g' w' ∧ F g' k v w')
    (h : ∀ v, WkG P ops T S F X lz kt m (k + 1) (a.put o.dst v)) : WkG P ops T S F X lz kt (m + 1) k a :=
  ⟨o, ho, ⟨fun g w hS hF => ⟨by simp [Region.wanted, hg], by
    obtain ⟨f, args, he, hc⟩ := hv g w hS hF
    unfold Oper.wp
    rw [he]
    refine Calls.mono hc ?_
    rintro e w' ⟨v, g', rfl, hS', hM, hF'⟩
    exact ⟨put_defers, g', hS', hM, v, rfl, by rw [valAt_put ho hd hlt]; exact hF'⟩⟩, fun e => absurd e hz⟩, h⟩
theorem WkG.pure {d : Tmp} (hX : ∀ g w, X g w g w) (ho : ops[k]? = some o) (hd : o.dst = some d) (hlt : d < a.tmps.size) (hg : o.guard = none)
    (hv : ∀ g w, S g w → (∀ j, edgeB o j = true → F g j (valAt ops a j) w) → ∃ v, (∀ w', (execOp a.eval o).run P w' = .ok (.value v) w') ∧ F g k v w)
    (h : ∀ v, WkG P ops T S F X lz kt m (k + 1) (a.put o.dst v)) : WkG P ops T S F X lz kt (m + 1) k a :=
  ⟨o, ho, ⟨fun g w hS hF => ⟨by simp [Region.wanted, hg], by
    obtain ⟨v, he, hF'⟩ := hv g w hS hF
    unfold Oper.wp
    rw [he]
    exact ⟨put_defers, g, hS, hX g w, v, rfl, by rw [valAt_put ho hd hlt]; exact hF'⟩⟩, fun _ g w hS hF => ⟨by simp [Region.wanted, hg], by
    obtain ⟨v, he, hF'⟩ := hv g w hS hF
    exact ⟨v, he, by rw [valAt_put ho hd hlt]; exact hF'⟩⟩⟩, h⟩
theorem WkG.done (h : ∀ g w, S g w → (∀ j, j < kt → F g j (valAt ops a j) w) → T a w) : WkG P ops T S F X lz kt 0 k a := h
end
/-- The step at the frame that is there. -/
theorem stepG_to (hok : regOkT ops ops.size = true) {listed : Array Bool} {k : Nat} {b a : Act} {o : Oper} (ho : ops[k]? = some o) (h : Agr ops listed k b a) (hst : StepG P ops S F X k o b)
    (hj : ∀ j, edgeB o j = true → j < k) {w : World} {g : G} {K : Act → World → Prop} (hS : S g w) (hF : ∀ j, edgeB o j = true → F g j (valAt ops a j) w)
    (hK : ∀ u w' g', S g' w' → X g w g' w' → F g' k (valAt ops (a.put o.dst u) k) w' → K (a.put o.dst u) w') :
    Region.wanted o (yielded ops a.tmps) = true ∧ o.wp P a w K Q := by
  obtain ⟨hev, hw⟩ := same_exec hok ho (agr_look hok ho h)
  have hval : ∀ j, j < k → valAt ops b j = valAt ops a j := by
    intro j hjk
    unfold valAt
    cases ho' : ops[j]? with
    | none => rfl
    | some oj =>
      cases hd : oj.dst with
      | none => simp [hd]
      | some d =>
        simp only [Option.bind_some, hd]
        have := h.at_ d fun i oi hi hoi _ hdi => ((regOkT_at hok ho').2.2 i oi d (by omega) hoi hdi).1 hd
        simp only [Array.getD_eq_getD_getElem?, this]
  have hvalk : ∀ u, valAt ops (b.put o.dst u) k = valAt ops (a.put o.dst u) k := by
    intro u
    unfold valAt
    rw [ho]
    cases hd : o.dst with
    | none => simp [hd]
    | some d =>
      have hs := h.size
      simp only [Option.bind_some, hd, Act.put, Array.getD_eq_getD_getElem?]
      rw [Array.getElem?_setIfInBounds, Array.getElem?_setIfInBounds, if_pos rfl, if_pos rfl, hs]
  obtain ⟨h1, h2⟩ := hst g w hS (fun j hjb => by rw [hval j (hj j hjb)]; exact hF j hjb)
  refine ⟨by rw [← hw]; exact h1, ?_⟩
  have next : ∀ u w', (∃ g', S g' w' ∧ X g w g' w' ∧ ∃ u', b.put o.dst u = b.put o.dst u' ∧ F g' k (valAt ops (b.put o.dst u') k) w') → K (a.put o.dst u) w' := by
    rintro u w' ⟨g', hS', hM, u', hu, hF'⟩
    refine hK u w' g' hS' hM ?_
    rw [← hvalk, hu]
    exact hF'
  unfold Oper.wp at *
  rw [← hev]
  revert h2
  generalize (execOp b.eval o).run P w = r
  intro h2
  cases r with
  | ok n w' =>
    cases n with
    | value u => exact next u w' h2.2
    | skip => exact next undef w' h2.2
    | defer d =>
      have h3 : (({ b with defers := d :: b.defers } : Act).put o.dst undef).defers = b.defers := h2.1
      have h4 : (({ b with defers := d :: b.defers } : Act).put o.dst undef).defers = d :: b.defers := by cases o.dst <;> rfl
      rw [h4] at h3
      have := congrArg List.length h3
      simp at this
    | enter f args =>
      refine Calls.mono (show Calls P f args w' _ from h2) fun e w'' he => ?_
      cases e with
      | returned u => exact next u w'' he.2
      | panicked c => exact (he : False).elim
      | outgrown =>
        obtain ⟨_, _, hf⟩ := (he : LetsOut noOut)
        exact (hf : False).elim
    | row row args => exact Rows.mono (show Rows P row args w' _ from h2) fun u w'' he => next u w'' he.2
    | _ => exact (h2 : False).elim
  | halt x w' => cases x <;> exact (h2 : False).elim

theorem wkg_at (hok : regOkT ops ops.size = true) {T : Act → World → Prop} {lz kt : Nat} {listed : Array Bool} {a : Act} : ∀ (m k : Nat) (b : Act), k + m = kt → WkG P ops T S F X lz kt m k b → Agr ops listed k b a →
    (∀ i, k ≤ i → i < kt → ∃ bi o, ops[i]? = some o ∧ Agr ops listed i bi a ∧ (StepG P ops S F X i o bi ∧ (i = lz → PureG P ops S F i o bi))) ∧ ∃ bE, Agr ops listed kt bE a ∧ ∀ g w, S g w → (∀ j, j < kt → F g j (valAt ops bE j) w) → T bE w
  | 0, k, b, hk, h, hag => ⟨fun i h1 h2 => by omega, b, by rw [← hk]; exact hag, h⟩
  | m + 1, k, b, hk, ⟨o, ho, hst, h⟩, hag => by
    obtain ⟨h1, h2⟩ := wkg_at hok m (k + 1) _ (by omega) (h (valAt ops a k)) (agr_put ho hag)
    refine ⟨fun i hi hlt => ?_, h2⟩
    by_cases e : i = k
    · subst e; exact ⟨b, o, ho, hag, hst⟩
    · exact h1 i (by omega) hlt

/-- From kt on each operation waits for all ahead of kt, but for the lazy one. -/
def tailOkZ (ops : Array Oper) (kt lz : Nat) : Bool := (List.range ops.size).all fun i => decide (i < kt) || (List.range kt).all fun k => (k == lz) || waits ops ops.size i k
theorem tailOkZ_at {kt lz i k : Nat} (h : tailOkZ ops kt lz = true) (hi : i < ops.size) (hk : kt ≤ i) (hj : k < kt) (hz : k ≠ lz) : waits ops ops.size i k = true := by
  unfold tailOkZ at h
  rw [List.all_eq_true] at h
  have h1 := h i (List.mem_range.2 hi)
  simp only [Bool.or_eq_true, decide_eq_true_eq] at h1
  rcases h1 with h1 | h1
  · omega
  · rw [List.all_eq_true] at h1
    have := h1 k (List.mem_range.2 hj)
    simpa [hz] using this
def lstz (n kt lz : Nat) : Array Bool := ((List.range n).map fun i => decide (i < kt) && decide (i ≠ lz)).toArray
theorem wpAny_g (hok : regOkT ops ops.size = true) {kt lz : Nat} (hkt : kt ≤ ops.size) (hlz : lz < kt ∨ ops.size ≤ lz) (htl : tailOkZ ops kt lz = true) (hfr : lz < kt → Region.free .any ops (lstz ops.size kt lz) lz = true)
    (hQ : ∀ c (a : Act) d v w, Q (.panic c) (a.put d v) w → Q (.panic c) a w)
    (hmono : ∀ g g' k v w w', F g k v w → X g w g' w' → F g' k v w') {a0 : Act}
    (hW : WkG P ops (wpAny P .any ops Q (ops.size - kt) (lst ops.size kt)) S F X lz kt kt 0 a0) :
    ∀ (fuel : Nat) (listed : Array Bool) (a : Act) (w : World) (g : G), listed.size = ops.size → (List.range ops.size).countP (fun i => !listed.getD i true) = fuel →
      Shut ops listed → (∀ i, kt ≤ i → i < ops.size → listed.getD i true = false) → Agr ops listed 0 a0 a → S g w → (∀ j, j < kt → listed.getD j true = true → F g j (valAt ops a j) w) → wpAny P .any ops Q fuel listed a w := by
  intro fuel
  induction fuel with
  | zero =>
    intro listed a w g hsz hc hsh hlate hag hS hF
    have hall : ∀ i, i < ops.size → listed.getD i true = true := by
      intro i hi
      rw [List.countP_eq_zero] at hc
      simpa using hc i (List.mem_range.2 hi)
    have hk : kt = ops.size := by
      rcases Nat.lt_or_ge kt ops.size with h | h
      · have h1 := hlate kt (Nat.le_refl _) h
        rw [hall kt h] at h1
        cases h1
      · omega
    obtain ⟨_, bE, hE, hT⟩ := wkg_at hok kt 0 a0 (by omega) hW hag
    have hbE : bE = a := by
      obtain ⟨t1, d1⟩ := bE
      obtain ⟨t2, d2⟩ := a
      have h2 : d1 = d2 := hE.defers
      subst h2
      congr
      refine Array.ext_getElem? fun t => ?_
      exact hE.at_ t fun i o hi ho hl hd => by have := (Array.getElem?_eq_some_iff.1 ho).1; omega
    subst hbE
    have h3 := hT g w hS (fun j hj => hF j hj (hall j (by omega)))
    have hl2 : listed = lst ops.size kt := by
      refine Array.ext (by simp [lst, hsz]) fun i h1 h2 => ?_
      have h5 := hall i (by omega)
      have h6 : listed[i] = true := by simpa [Array.getD, h1] using h5
      rw [h6]
      simp [lst]
      omega
    rw [hl2]
    rw [show ops.size - kt = 0 by omega] at h3
    exact h3
  | succ fuel ih =>
    intro listed a w g hsz hc hsh hlate hag hS hF
    -- behind the step of an early operation
    have next : ∀ i o, ops[i]? = some o → listed.getD i true = false → i < kt → (∀ e ∈ o.after, Region.binds .any e = true → listed.getD e.on false = true) →
        ∀ u w' g', S g' w' → (∀ j v, F g j v w → F g' j v w') → F g' i (valAt ops (a.put o.dst u) i) w' → wpAny P .any ops Q fuel (listed.setIfInBounds i true) (a.put o.dst u) w' := by
      intro i o ho hl hik hd u w' g' hS' hmo hF'
      have hio := (Array.getElem?_eq_some_iff.1 ho).1
      have hil : i < listed.size := by omega
      have hset : ∀ j, j ≠ i → (listed.setIfInBounds i true).getD j true = listed.getD j true := fun j hj => getD_set_ne true (Ne.symm hj)
      have hseti : (listed.setIfInBounds i true).getD i true = true := by simp [Array.getD, hil]
      have hsz' : (listed.setIfInBounds i true).size = ops.size := by simpa using hsz
      have hc' : (List.range ops.size).countP (fun j => !(listed.setIfInBounds i true).getD j true) = fuel := by
        have h7 : ∀ n, (List.range n).countP (fun j => !(listed.setIfInBounds i true).getD j true) + (if i < n then 1 else 0) = (List.range n).countP (fun j => !listed.getD j true) := by
          intro n
          induction n with
          | zero => simp
          | succ n ihn =>
            rw [List.range_succ, List.countP_append, List.countP_append]
            by_cases e : n = i
            · subst e
              rw [if_neg (by omega)] at ihn
              rw [if_pos (by omega)]
              rw [List.countP_cons, List.countP_nil, List.countP_cons, List.countP_nil, hseti, hl, if_neg (by decide), if_pos (by decide)]
              omega
            · have h8 : (if i < n + 1 then 1 else 0) = (if i < n then 1 else 0) := by
                by_cases h9 : i < n
                · rw [if_pos h9, if_pos (by omega)]
                · rw [if_neg h9, if_neg (by omega)]
              rw [h8, List.countP_cons, List.countP_nil, List.countP_cons, List.countP_nil, hset n e]
              omega
        have := h7 ops.size
        rw [if_pos hio, hc] at this
        omega
      have hsh' : Shut ops (listed.setIfInBounds i true) := by
        intro q oq hoq hlq e he hb
        have hq := (Array.getElem?_eq_some_iff.1 hoq).1
        rw [getD_tf (by omega)] at hlq
        have hmono' : listed.getD e.on false = true → (listed.setIfInBounds i true).getD e.on false = true := fun h => getD_set_true h
        by_cases hqi : q = i
        · subst hqi
          rw [ho] at hoq
          injection hoq with hoq
          subst hoq
          exact hmono' (hd e he hb)
        · rw [hset q hqi] at hlq
          exact hmono' (hsh q oq hoq (by rw [getD_tf (by omega)]; exact hlq) e he hb)
      exact ih _ _ _ g' hsz' hc' hsh' (fun q hq hqs => by rw [hset q (by omega)]; exact hlate q hq hqs)
        ⟨by rw [put_size]; exact hag.size, by rw [put_defers]; exact hag.defers, fun t ht => by
          have hdt : o.dst ≠ some t := ht i o (Nat.zero_le _) ho hseti
          rw [put_other hdt]
          exact hag.at_ t fun q oq hq hoq hlq => ht q oq hq hoq (by
            by_cases hqi : q = i
            · subst hqi; exact hseti
            · rw [hset q hqi]; exact hlq)⟩ hS' (fun j hj hlj => by
          by_cases hji : j = i
          · subst hji; exact hF'
          · rw [hset j hji] at hlj
            have h8 : valAt ops (a.put o.dst u) j = valAt ops a j := by
              unfold valAt
              cases hoj : ops[j]? with
              | none => rfl
              | some oj =>
                cases hdj : oj.dst with
                | none => simp [hdj]
                | some d =>
                  simp only [Option.bind_some, hdj]
                  have h9 : o.dst ≠ some d := ((regOkT_at hok ho).2.2 j oj d hji hoj hdj).1
                  simp only [Array.getD_eq_getD_getElem?, put_other h9]
            rw [h8]
            exact hmo j _ (hF j hj hlj))
    have factsOf : ∀ i o, ops[i]? = some o → i < kt → (∀ e ∈ o.after, Region.binds .any e = true → listed.getD e.on false = true) → ∀ j, edgeB o j = true → F g j (valAt ops a j) w := by
      intro i o ho hik hd j hj
      have hio := (Array.getElem?_eq_some_iff.1 ho).1
      have hji := edge_lt hok ho j hj
      refine hF j (by omega) ?_
      unfold edgeB at hj
      obtain ⟨e, he, hb⟩ := List.any_eq_true.1 hj
      simp only [Bool.and_eq_true, beq_iff_eq] at hb
      have := hd e (Array.mem_toList_iff.1 he) hb.1
      rw [hb.2, getD_tf (by omega)] at this
      exact this
    by_cases hdone0 : ∀ j, j < kt → j ≠ lz → listed.getD j true = true
    · by_cases hz : listed.getD lz true = true
      · have hdone : ∀ j, j < kt → listed.getD j true = true := fun j hj => by
          by_cases e : j = lz
          · subst e; exact hz
          · exact hdone0 j hj e
        obtain ⟨_, bE, hE, hT⟩ := wkg_at hok kt 0 a0 (by omega) hW hag
        have hbE : bE = a := by
          obtain ⟨t1, d1⟩ := bE
          obtain ⟨t2, d2⟩ := a
          have h2 : d1 = d2 := hE.defers
          subst h2
          congr
          refine Array.ext_getElem? fun t => ?_
          exact hE.at_ t fun i o hi ho hl hd => by
            have h1 := (Array.getElem?_eq_some_iff.1 ho).1
            rw [hlate i hi h1] at hl
            cases hl
        subst hbE
        have h3 := hT g w hS (fun j hj => hF j hj (hdone j hj))
        have hl2 : listed = lst ops.size kt := by
          refine Array.ext (by simp [lst, hsz]) fun i h1 h2 => ?_
          have h5 : listed[i] = listed.getD i true := by simp [Array.getD, h1]
          rw [h5]
          rcases Nat.lt_or_ge i kt with h | h
          · rw [hdone i h]; simp [lst, h]
          · rw [hlate i h (by omega)]; simp [lst]; omega
        have hcc : ops.size - kt = fuel + 1 := by
          rw [← hc]
          have h7 : ∀ n, n ≤ ops.size → (List.range n).countP (fun i => !listed.getD i true) = n - kt := by
            intro n
            induction n with
            | zero => intro _; simp
            | succ n ihn =>
              intro hn
              rw [List.range_succ, List.countP_append, ihn (by omega)]
              rcases Nat.lt_or_ge n kt with h | h
              · rw [List.countP_cons, List.countP_nil, hdone n h, if_neg (by decide)]; omega
              · rw [List.countP_cons, List.countP_nil, hlate n h (by omega), if_pos (by decide)]; omega
          exact (h7 ops.size (Nat.le_refl _)).symm
        rw [← hcc, hl2]
        exact h3
      · have hlzk : lz < kt := by
          rcases hlz with h | h
          · exact h
          · exact absurd (show listed.getD lz true = true by simp [Array.getD, show ¬ lz < listed.size by omega]) hz
        have hzf : listed.getD lz true = false := by simpa using hz
        obtain ⟨oz, hoz⟩ : ∃ oz, ops[lz]? = some oz := ⟨_, Array.getElem?_eq_getElem (show lz < ops.size by omega)⟩
        have hdz : ∀ e ∈ oz.after, Region.binds .any e = true → listed.getD e.on false = true := fun e he hb => by
          have h1 := (regOkT_at hok hoz).1 e he hb
          rw [getD_tf (by omega)]
          exact hdone0 e.on (by omega) (by omega)
        obtain ⟨hst, _⟩ := wkg_at hok kt 0 a0 (by omega) hW hag
        obtain ⟨bi, o', ho', hagi, hstep⟩ := hst lz (Nat.zero_le _) hlzk
        rw [hoz] at ho'
        injection ho' with ho'
        subst ho'
        obtain ⟨hev, hw⟩ := same_exec hok hoz (agr_look hok hoz hagi)
        have hval : ∀ j, j < lz → valAt ops bi j = valAt ops a j := by
          intro j hjk
          unfold valAt
          cases ho' : ops[j]? with
          | none => rfl
          | some oj =>
            cases hd : oj.dst with
            | none => simp [hd]
            | some d =>
              simp only [Option.bind_some, hd]
              have := hagi.at_ d fun i oi hi hoi _ hdi => ((regOkT_at hok ho').2.2 i oi d (by omega) hoi hdi).1 hd
              simp only [Array.getD_eq_getD_getElem?, this]
        have hvalk : ∀ u, valAt ops (bi.put oz.dst u) lz = valAt ops (a.put oz.dst u) lz := by
          intro u
          unfold valAt
          rw [hoz]
          cases hd : oz.dst with
          | none => simp [hd]
          | some d =>
            have hs := hagi.size
            simp only [Option.bind_some, hd, Act.put, Array.getD_eq_getD_getElem?]
            rw [Array.getElem?_setIfInBounds, Array.getElem?_setIfInBounds, if_pos rfl, if_pos rfl, hs]
        obtain ⟨hwz, v, hrun, hFv⟩ := hstep.2 rfl g w hS (fun j hj => by rw [hval j (edge_lt hok hoz j hj)]; exact factsOf lz oz hoz hlzk hdz j hj)
        have hl3 : listed = lstz ops.size kt lz := by
          refine Array.ext (by simp [lstz, hsz]) fun i h1 h2 => ?_
          have h5 : listed[i] = listed.getD i true := by simp [Array.getD, h1]
          rw [h5]
          by_cases e : i = lz
          · subst e; rw [hzf]; simp [lstz]
          · rcases Nat.lt_or_ge i kt with h | h
            · rw [hdone0 i h e]; simp [lstz, h, e]
            · rw [hlate i h (by omega)]; simp [lstz]; omega
        refine wpAny_take hoz (regOkT_sel hok) (by rw [hl3]; exact hfr hlzk) (by simpa using mem_ready.2 ⟨hzf, oz, hoz, hdz⟩) (fun c a w h => hQ c a oz.dst v w h) (Or.inl ⟨by rw [← hw]; exact hwz, fun w' => by rw [← hev]; exact hrun w'⟩) ?_
        exact next lz oz hoz hzf hlzk hdz v w g hS (fun _ _ h => h) (by rw [← hvalk]; exact hFv)
    · refine ⟨fun hr => ?_, fun i hi => ?_⟩
      · exact absurd (fun j hj _ => all_listed hok hsz hr (j + 1) j (by omega) _ (Array.getElem?_eq_getElem (show j < ops.size by omega))) hdone0
      · obtain ⟨hl, o, ho, hd⟩ := mem_ready.1 hi
        have hio := (Array.getElem?_eq_some_iff.1 ho).1
        have hik : i < kt := by
          rcases Nat.lt_or_ge i kt with h | h
          · exact h
          · refine absurd (fun j hj hz => ?_) hdone0
            have := waits_listed hsh ops.size i j (tailOkZ_at htl hio h hj hz) fun o' ho' => by
              rw [ho] at ho'
              injection ho' with ho'
              subst ho'
              exact hd
            rwa [getD_tf (by omega)] at this
        obtain ⟨hst, _⟩ := wkg_at hok kt 0 a0 (by omega) hW hag
        obtain ⟨bi, o', ho', hagi, hstep⟩ := hst i (Nat.zero_le _) hik
        rw [ho] at ho'
        injection ho' with ho'
        subst ho'
        obtain ⟨hw1, hwp⟩ := stepG_to (Q := Q) hok ho hagi hstep.1 (edge_lt hok ho) hS (factsOf i o ho hik hd) (K := wpAny P .any ops Q fuel (listed.setIfInBounds i true)) (fun u w' g' hS' hM hF' => next i o ho hl hik hd u w' g' hS' (fun j v h => hmono _ _ j _ _ _ h hM) hF')
        unfold wpOp
        simp only [ho]
        rw [if_pos hw1]
        exact .inl hwp

theorem Oper.wp_noPan {o : Oper} {a : Act} {w : World} {K : Act → World → Prop} (h : o.wp P a w K (noPan Q)) : o.wp P a w K Q := by
  unfold Oper.wp at *
  generalize (execOp a.eval o).run P w = r at *
  cases r with
  | ok n w' =>
    cases n <;> simp only [Oper.upon] at h ⊢ <;>
      first
        | exact h
        | exact Calls.mono h (fun e w'' he => by
            cases e with
            | returned u => exact he
            | panicked c => exact (he : False).elim
            | outgrown => exact letsOut_noPan he)
  | halt x w' =>
    cases x <;> simp only [Oper.upon] at h ⊢ <;> first | exact h | exact (h : False).elim
theorem wpAny_noPan {md : Region.Mode} : ∀ (fuel : Nat) (listed : Array Bool) (a : Act) (w : World), wpAny P md ops (noPan Q) fuel listed a w → wpAny P md ops Q fuel listed a w := by
  intro fuel
  induction fuel with
  | zero => exact fun _ _ _ h => h
  | succ fuel ih =>
    intro listed a w h
    refine ⟨h.1, fun i hi => ?_⟩
    have h1 := h.2 i hi
    unfold wpOp at *
    split
    · rename_i ho
      simp only [ho] at h1
      exact ih _ _ _ h1
    · rename_i o ho
      simp only [ho] at h1
      split
      · rename_i hw
        simp only [hw, if_true] at h1
        exact h1.imp (fun h2 => Oper.wp_noPan (Oper.wp_mono (fun a w h3 => ih _ a w h3) h2)) (fun h2 => ⟨h2.1, letsOut_noPan h2.2⟩)
      · rename_i hw
        simp only [hw] at h1
        exact ih _ _ _ h1
theorem wpAny_doneN {md : Region.Mode} {listed : Array Bool} {a : Act} {w : World} {fuel : Nat} (hr : Region.ready md ops listed = []) (h : Q .normal a w) : wpAny P md ops (noPan Q) fuel listed a w := wpAny_done (Q := noPan Q) hr (show noPan Q .normal a w from h) fuel
/-- The beginning: kt operations with facts (lz among them may come up late), then the others. -/
theorem wp_region_fg {id : Nat} {a : Act} {w : World} {Q : Exit → Act → World → Prop} (S : G → World → Prop) (F : G → Nat → Value → World → Prop) (X : G → World → G → World → Prop) (g : G) (lz kt : Nat) (hm : P.follows .mixedOrders = true) (hok : regOkT ops ops.size = true) (hkt : kt ≤ ops.size) (hlz : lz < kt ∨ ops.size ≤ lz) (htl : tailOkZ ops kt lz = true)
    (hfr : lz < kt → Region.free .any ops (lstz ops.size kt lz) lz = true)
    (hmono : ∀ g g' k v w w', F g k v w → X g w g' w' → F g' k v w') (hS : S g w.drew)
    (h : WkG P ops (wpAny P .any ops (noPan Q) (ops.size - kt) (lst ops.size kt)) S F X lz kt kt 0 a) : (Code.region id ops true).wp P Q a w := by
  refine wp_region_any hm (wpAny_noPan _ _ _ _ (wpAny_g hok hkt hlz htl hfr (fun _ _ _ _ _ h => (h : False).elim) hmono h ops.size _ a _ g (by simp) ?_ ?_ ?_ ⟨rfl, rfl, fun t _ => rfl⟩ hS ?_))
  · rw [List.countP_eq_length.2]
    · simp
    · intro i hi
      have := List.mem_range.1 hi
      simp [Array.getD, this]
  · intro i o ho hl
    simp [Array.getD] at hl
  · intro i _ hi
    simp [Array.getD, hi]
  · intro j hj hl
    have : j < ops.size := by omega
    simp [Array.getD, this] at hl
end
/-- The boxes that a region has made: the operation's number and the block. -/
abbrev Bxs := Nat → Nat → Prop
def bxP (g : Bxs) (k B : Nat) : Bxs := fun j C => g j C ∨ (j = k ∧ C = B)
/-- What a step may turn: no block that was there; new boxes lie above what was there. -/
structure BxX (g : Bxs) (w : World) (g' : Bxs) (w' : World) : Prop where
  far : Mk0 w w'
  keep : ∀ k B, g k B → g' k B
  new : ∀ k B, g' k B → g k B ∨ w.heap.size ≤ B
theorem BxX.same {g : Bxs} {w w' : World} (h : Mk0 w w') : BxX g w g w' := ⟨h, fun _ _ h => h, fun _ _ h => .inl h⟩
/-- The boxes lie above W0, below the heap's end, each for itself. -/
structure BxS (W0 : Nat) (g : Bxs) (w : World) : Prop where
  lo : ∀ k B, g k B → W0 ≤ B
  hi : ∀ k B, g k B → B < w.heap.size
  one : ∀ k j B, g k B → g j B → k = j
theorem BxS.none_ (W0 : Nat) (w : World) : BxS W0 (fun _ _ => False) w := ⟨fun _ _ h => h.elim, fun _ _ h => h.elim, fun _ _ _ h => h.elim⟩
theorem BxS.mk0 {W0 : Nat} {g : Bxs} {w w' : World} (h : BxS W0 g w) (m : Mk0 w w') : BxS W0 g w' := ⟨h.lo, fun k B hk => Nat.lt_of_lt_of_le (h.hi k B hk) m.size, h.one⟩
theorem BxS.put {W0 : Nat} {g : Bxs} {w : World} (h : BxS W0 g w) (hW : W0 ≤ w.heap.size) (k : Nat) (o : Obj) : BxS W0 (bxP g k w.heap.size) (w.alloc o) := by
  refine ⟨fun j B hj => ?_, fun j B hj => ?_, fun j i B hj hi => ?_⟩
  · rcases hj with hj | ⟨_, rfl⟩
    · exact h.lo j B hj
    · exact hW
  · rw [World.size_alloc]
    rcases hj with hj | ⟨_, rfl⟩
    · have := h.hi j B hj; omega
    · omega
  · rcases hj with hj | ⟨e1, e2⟩ <;> rcases hi with hi | ⟨e3, e4⟩
    · exact h.one j i B hj hi
    · have := h.hi j B hj; omega
    · have := h.hi i B hi; omega
    · omega
theorem BxX.put {g : Bxs} {w : World} (k : Nat) (o : Obj) : BxX g w (bxP g k w.heap.size) (w.alloc o) := by
  refine ⟨Mk.alloc w o, fun j B hj => .inl hj, fun j B hj => ?_⟩
  rcases hj with hj | ⟨_, rfl⟩
  · exact .inl hj
  · exact .inr (Nat.le_refl _)
/-- A range lies apart from the boxes. -/
def BxA (g : Bxs) (lo hi : Nat) : Prop := ∀ k B, g k B → B < lo ∨ hi ≤ B
theorem BxA.step {g g' : Bxs} {w w' : World} {lo hi : Nat} (h : BxA g lo hi) (x : BxX g w g' w') (hh : hi ≤ w.heap.size) : BxA g' lo hi := fun k B hB => by
  rcases x.new k B hB with h1 | h1
  · exact h k B h1
  · exact .inr (by omega)
theorem BxA.of {W0 : Nat} {g : Bxs} {w : World} {hi : Nat} (h : BxS W0 g w) : BxA g w.heap.size hi := fun k B hB => .inl (h.hi k B hB)
/-- v leads to a box of operation k, with these cells, which may be written. -/
def BxZ (g : Bxs) (k : Nat) (zs : List Value) (v : Value) (w : World) : Prop := ∃ B, g k B ∧ v = .pointer (some ⟨B, 0, none⟩) ∧ B < w.heap.size ∧ (∀ j x, zs[j]? = some x → w.cell? ⟨B, j, none⟩ = some x) ∧ (∀ j, w.frozen? ⟨B, j, none⟩ = false)
theorem BxZ.step {g g' : Bxs} {k : Nat} {zs : List Value} {v : Value} {w w' : World} (h : BxZ g k zs v w) (x : BxX g w g' w') : BxZ g' k zs v w' := by
  obtain ⟨B, h1, h2, hB, h3, h4⟩ := h
  exact ⟨B, x.keep k B h1, h2, Nat.lt_of_lt_of_le hB x.far.size, fun j y hy => x.far.cellAt (h3 j y hy), fun j => (x.far.frozen hB (.inr (Nat.zero_le _))).trans (h4 j)⟩
theorem BxZ.new (g : Bxs) (k : Nat) (zs : List Value) (t : TypeId) (w : World) : BxZ (bxP g k w.heap.size) k zs (.pointer (some ⟨w.heap.size, 0, none⟩)) (w.alloc (.cells zs.toArray t)) := by
  refine ⟨w.heap.size, .inr ⟨rfl, rfl⟩, rfl, by rw [World.size_alloc]; omega, fun j x hx => ?_, fun j => by simp [go_sem]⟩
  rw [World.cell?_alloc_at _ _ _ _ rfl]
  simpa using hx
def fgF (l : List (Bxs → Value → World → Prop)) (g : Bxs) (k : Nat) (v : Value) (w : World) : Prop := (l.getD k (fun _ _ _ => True)) g v w
def fgM : List (Bxs → Value → World → Prop) → Prop
  | [] => True
  | p :: l => (∀ g g' v w w', p g v w → BxX g w g' w' → p g' v w') ∧ fgM l
theorem fgM_mono : ∀ {l : List (Bxs → Value → World → Prop)}, fgM l → ∀ g g' k v w w', fgF l g k v w → BxX g w g' w' → fgF l g' k v w'
  | [], _, g, g', k, v, w, w', _, _ => by unfold fgF; simp
  | p :: l, h, g, g', 0, v, w, w', hp, m => h.1 g g' v w w' hp m
  | p :: l, h, g, g', k + 1, v, w, w', hp, m => fgM_mono (l := l) h.2 g g' k v w w' hp m
end Go.Proofs.Ytdlafigjkefllaa
