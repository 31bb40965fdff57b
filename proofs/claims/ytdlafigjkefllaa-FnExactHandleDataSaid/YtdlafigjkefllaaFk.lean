
/- A region that draws its order, walked once in the order of its text: each operation leaves a fact on its value that no later one undoes; which value it is may hang on the order. -/
import Derived.Test.YtdlafigjkefllaaWs
namespace Go.Proofs.Ytdlafigjkefllaa
open Go
set_option linter.unusedVariables false
section
variable {P : Program} {ops : Array Oper} {Q : Exit → Act → World → Prop} {S : World → Prop} {F : Nat → Value → World → Prop}
def valAt (ops : Array Oper) (a : Act) (j : Nat) : Value := match (ops[j]?).bind (·.dst) with | some d => a.tmps.getD d undef | none => undef
def edgeB (o : Oper) (j : Nat) : Bool := o.after.toList.any fun e => Region.binds .any e && e.on == j
/-- From kt on each operation waits for all ahead of kt. -/
def tailOk (ops : Array Oper) (kt : Nat) : Bool := (List.range ops.size).all fun i => decide (i < kt) || (List.range kt).all fun k => waits ops ops.size i k
theorem tailOk_at {kt i k : Nat} (h : tailOk ops kt = true) (hi : i < ops.size) (hk : kt ≤ i) (hj : k < kt) : waits ops ops.size i k = true := by
  unfold tailOk at h
  rw [List.all_eq_true] at h
  have h1 := h i (List.mem_range.2 hi)
  simp only [Bool.or_eq_true, decide_eq_true_eq] at h1
  rcases h1 with h1 | h1
  · omega
  · rw [List.all_eq_true] at h1
    exact h1 k (List.mem_range.2 hj)
/-- What a step owes. -/
def StepK (P : Program) (ops : Array Oper) (S : World → Prop) (F : Nat → Value → World → Prop) (k : Nat) (o : Oper) (a : Act) : Prop :=
  ∀ w, S w → (∀ j, edgeB o j = true → F j (valAt ops a j) w) →
    Region.wanted o (yielded ops a.tmps) = true ∧ o.wp P a w (fun a' w' => a'.defers = a.defers ∧ S w' ∧ Mk0 w w' ∧ ∃ u, a' = a.put o.dst u ∧ F k (valAt ops (a.put o.dst u) k) w') noOut
def WkF (P : Program) (ops : Array Oper) (T : Act → World → Prop) (S : World → Prop) (F : Nat → Value → World → Prop) (kt : Nat) : Nat → Nat → Act → Prop
  | 0, _, a => ∀ w, S w → (∀ j, j < kt → F j (valAt ops a j) w) → T a w
  | m + 1, k, a => ∃ o, ops[k]? = some o ∧ StepK P ops S F k o a ∧ ∀ v, WkF P ops T S F kt m (k + 1) (a.put o.dst v)
section
variable {T : Act → World → Prop} {kt m k : Nat} {a : Act} {o : Oper}
theorem valAt_put {d : Tmp} {u : Value} (ho : ops[k]? = some o) (hd : o.dst = some d) (hlt : d < a.tmps.size) : valAt ops (a.put o.dst u) k = u := by
  unfold valAt
  rw [ho]
  simp [hd, Act.put, Array.getD, hlt]
theorem WkF.value {d : Tmp} (ho : ops[k]? = some o) (hd : o.dst = some d) (hlt : d < a.tmps.size) (hg : o.guard = none)
    (hv : ∀ w, S w → (∀ j, edgeB o j = true → F j (valAt ops a j) w) → ∃ v w', (execOp a.eval o).run P w = .ok (.value v) w' ∧ S w' ∧ Mk0 w w' ∧ F k v w')
    (h : ∀ v, WkF P ops T S F kt m (k + 1) (a.put o.dst v)) : WkF P ops T S F kt (m + 1) k a :=
  ⟨o, ho, fun w hS hF => ⟨by simp [Region.wanted, hg], by
    obtain ⟨v, w', he, hS', hM, hF'⟩ := hv w hS hF
    unfold Oper.wp
    rw [he]
    exact ⟨put_defers, hS', hM, v, rfl, by rw [valAt_put ho hd hlt]; exact hF'⟩⟩, h⟩
theorem WkF.call {d : Tmp} (ho : ops[k]? = some o) (hd : o.dst = some d) (hlt : d < a.tmps.size) (hg : o.guard = none)
    (hv : ∀ w, S w → (∀ j, edgeB o j = true → F j (valAt ops a j) w) → ∃ f args, (execOp a.eval o).run P w = .ok (.enter f args) w ∧ Calls P f args w fun e w' => ∃ v, e = .returned v ∧ S w' ∧ Mk0 w w' ∧ F k v w')
    (h : ∀ v, WkF P ops T S F kt m (k + 1) (a.put o.dst v)) : WkF P ops T S F kt (m + 1) k a :=
  ⟨o, ho, fun w hS hF => ⟨by simp [Region.wanted, hg], by
    obtain ⟨f, args, he, hc⟩ := hv w hS hF
    unfold Oper.wp
    rw [he]
    refine Calls.mono hc ?_
    rintro e w' ⟨v, rfl, hS', hM, hF'⟩
    exact ⟨put_defers, hS', hM, v, rfl, by rw [valAt_put ho hd hlt]; exact hF'⟩⟩, h⟩
theorem WkF.done (h : ∀ w, S w → (∀ j, j < kt → F j (valAt ops a j) w) → T a w) : WkF P ops T S F kt 0 k a := h
end

/-- b is as a, but for what listed operations from k on have written. -/
structure Agr (ops : Array Oper) (listed : Array Bool) (k : Nat) (b a : Act) : Prop where
  size : b.tmps.size = a.tmps.size
  defers : b.defers = a.defers
  at_ : ∀ t, (∀ i o, k ≤ i → ops[i]? = some o → listed.getD i true = true → o.dst ≠ some t) → b.tmps[t]? = a.tmps[t]?

theorem agr_put {listed : Array Bool} {k : Nat} {b a : Act} {o : Oper} (ho : ops[k]? = some o) (h : Agr ops listed k b a) : Agr ops listed (k + 1) (b.put o.dst (valAt ops a k)) a := by
  refine ⟨by rw [put_size]; exact h.size, by rw [put_defers]; exact h.defers, fun t ht => ?_⟩
  by_cases hd : o.dst = some t
  · have hs := h.size
    unfold valAt
    rw [ho]
    simp only [hd, Option.bind_some, Act.put]
    rw [Array.getElem?_setIfInBounds, if_pos rfl]
    by_cases hlt : t < b.tmps.size
    · have h9 : t < a.tmps.size := hs ▸ hlt
      rw [if_pos hlt]
      simp [Array.getD, h9]
    · have h9 : ¬ t < a.tmps.size := hs ▸ hlt
      rw [if_neg hlt]
      exact (Array.getElem?_eq_none (xs := a.tmps) (Nat.le_of_not_lt h9)).symm
  · rw [put_other hd]
    refine h.at_ t fun i oi hi hoi hl => ?_
    by_cases e : i = k
    · subst e
      rw [ho] at hoi
      injection hoi with hoi
      subst hoi
      exact hd
    · exact ht i oi (by omega) hoi hl

theorem agr_look (hok : regOkT ops ops.size = true) {listed : Array Bool} {k : Nat} {b a : Act} {o : Oper} (ho : ops[k]? = some o) (h : Agr ops listed k b a) : ∀ t ∈ o.looksAt ops, b.tmps[t]? = a.tmps[t]? := by
  obtain ⟨q1, q2, q3⟩ := regOkT_at hok ho
  intro t ht
  refine h.at_ t fun i oi hi hoi _ hd => ?_
  by_cases e : i = k
  · subst e
    rw [ho] at hoi
    injection hoi with hoi
    subst hoi
    exact q2 t hd ht
  · rcases (q3 i oi t e hoi hd).2 ht with ⟨e1, he, hb, heq⟩ | ⟨_, h6, _⟩
    · have := q1 e1 he hb
      omega
    · have := (Array.getElem?_eq_some_iff.1 hoi).1
      omega

/-- The step at the frame that is there. -/
theorem stepK_to (hok : regOkT ops ops.size = true) {listed : Array Bool} {k : Nat} {b a : Act} {o : Oper} (ho : ops[k]? = some o) (h : Agr ops listed k b a) (hst : StepK P ops S F k o b)
    (hj : ∀ j, edgeB o j = true → j < k) {w : World} {K : Act → World → Prop} (hS : S w) (hF : ∀ j, edgeB o j = true → F j (valAt ops a j) w)
    (hK : ∀ u w', S w' → Mk0 w w' → F k (valAt ops (a.put o.dst u) k) w' → K (a.put o.dst u) w') :
    Region.wanted o (yielded ops a.tmps) = true ∧ o.wp P a w K Q := by
  obtain ⟨hev, hw⟩ := same_exec hok ho (agr_look hok ho h)
  have hval : ∀ j, j < k → valAt ops b j = valAt ops a j := by
    intro j hjk
    unfold valAt
    cases ho' : ops[j]? with
    | none => rfl
    | some oj =>
      cases hd : oj.dst with
      | none => simp [hd]
      | some d =>
        simp only [Option.bind_some, hd]
        have := h.at_ d fun i oi hi hoi _ hdi => ((regOkT_at hok ho').2.2 i oi d (by omega) hoi hdi).1 hd
        simp only [Array.getD_eq_getD_getElem?, this]
  have hvalk : ∀ u, valAt ops (b.put o.dst u) k = valAt ops (a.put o.dst u) k := by
    intro u
    unfold valAt
    rw [ho]
    cases hd : o.dst with
    | none => simp [hd]
    | some d =>
      have hs := h.size
      simp only [Option.bind_some, hd, Act.put, Array.getD_eq_getD_getElem?]
      rw [Array.getElem?_setIfInBounds, Array.getElem?_setIfInBounds, if_pos rfl, if_pos rfl, hs]
  obtain ⟨h1, h2⟩ := hst w hS (fun j hjb => by rw [hval j (hj j hjb)]; exact hF j hjb)
  refine ⟨by rw [← hw]; exact h1, ?_⟩
  have next : ∀ u w', (S w' ∧ Mk0 w w' ∧ ∃ u', b.put o.dst u = b.put o.dst u' ∧ F k (valAt ops (b.put o.dst u') k) w') → K (a.put o.dst u) w' := by
    rintro u w' ⟨hS', hM, u', hu, hF'⟩
    refine hK u w' hS' hM ?_
    rw [← hvalk, hu]
    exact hF'
  unfold Oper.wp at *
  rw [← hev]
  revert h2
  generalize (execOp b.eval o).run P w = r
  intro h2
  cases r with
  | ok n w' =>
    cases n with
    | value u => exact next u w' h2.2
    | skip => exact next undef w' h2.2
    | defer d =>
      have h3 : (({ b with defers := d :: b.defers } : Act).put o.dst undef).defers = b.defers := h2.1
      have h4 : (({ b with defers := d :: b.defers } : Act).put o.dst undef).defers = d :: b.defers := by cases o.dst <;> rfl
      rw [h4] at h3
      have := congrArg List.length h3
      simp at this
    | enter f args =>
      refine Calls.mono (show Calls P f args w' _ from h2) fun e w'' he => ?_
      cases e with
      | returned u => exact next u w'' he.2
      | panicked c => exact (he : False).elim
      | outgrown =>
        obtain ⟨_, _, hf⟩ := (he : LetsOut noOut)
        exact (hf : False).elim
    | row row args => exact Rows.mono (show Rows P row args w' _ from h2) fun u w'' he => next u w'' he.2
    | _ => exact (h2 : False).elim
  | halt x w' => cases x <;> exact (h2 : False).elim

theorem edge_lt (hok : regOkT ops ops.size = true) {k : Nat} {o : Oper} (ho : ops[k]? = some o) (j : Nat) (h : edgeB o j = true) : j < k := by
  unfold edgeB at h
  obtain ⟨e, he, hb⟩ := List.any_eq_true.1 h
  simp only [Bool.and_eq_true, beq_iff_eq] at hb
  have := (regOkT_at hok ho).1 e (Array.mem_toList_iff.1 he) hb.1
  omega

theorem wkf_at (hok : regOkT ops ops.size = true) {T : Act → World → Prop} {kt : Nat} {listed : Array Bool} {a : Act} : ∀ (m k : Nat) (b : Act), k + m = kt → WkF P ops T S F kt m k b → Agr ops listed k b a →
    (∀ i, k ≤ i → i < kt → ∃ bi o, ops[i]? = some o ∧ Agr ops listed i bi a ∧ StepK P ops S F i o bi) ∧ ∃ bE, Agr ops listed kt bE a ∧ ∀ w, S w → (∀ j, j < kt → F j (valAt ops bE j) w) → T bE w
  | 0, k, b, hk, h, hag => ⟨fun i h1 h2 => by omega, b, by rw [← hk]; exact hag, h⟩
  | m + 1, k, b, hk, ⟨o, ho, hst, h⟩, hag => by
    obtain ⟨h1, h2⟩ := wkf_at hok m (k + 1) _ (by omega) (h (valAt ops a k)) (agr_put ho hag)
    refine ⟨fun i hi hlt => ?_, h2⟩
    by_cases e : i = k
    · subst e; exact ⟨b, o, ho, hag, hst⟩
    · exact h1 i (by omega) hlt

def lst (n kt : Nat) : Array Bool := ((List.range n).map fun i => decide (i < kt)).toArray

theorem wpAny_f (hok : regOkT ops ops.size = true) {kt : Nat} (hkt : kt ≤ ops.size) (htl : tailOk ops kt = true) (hmono : ∀ k v w w', F k v w → Mk0 w w' → F k v w') {a0 : Act}
    (hW : WkF P ops (wpAny P .any ops Q (ops.size - kt) (lst ops.size kt)) S F kt kt 0 a0) :
    ∀ (fuel : Nat) (listed : Array Bool) (a : Act) (w : World), listed.size = ops.size → (List.range ops.size).countP (fun i => !listed.getD i true) = fuel →
      Shut ops listed → (∀ i, kt ≤ i → i < ops.size → listed.getD i true = false) → Agr ops listed 0 a0 a → S w → (∀ j, j < kt → listed.getD j true = true → F j (valAt ops a j) w) → wpAny P .any ops Q fuel listed a w := by
  intro fuel
  induction fuel with
  | zero =>
    intro listed a w hsz hc hsh hlate hag hS hF
    have hall : ∀ i, i < ops.size → listed.getD i true = true := by
      intro i hi
      rw [List.countP_eq_zero] at hc
      simpa using hc i (List.mem_range.2 hi)
    have hk : kt = ops.size := by
      rcases Nat.lt_or_ge kt ops.size with h | h
      · have h1 := hlate kt (Nat.le_refl _) h
        rw [hall kt h] at h1
        cases h1
      · omega
    obtain ⟨_, bE, hE, hT⟩ := wkf_at hok kt 0 a0 (by omega) hW hag
    have hbE : bE = a := by
      obtain ⟨t1, d1⟩ := bE
      obtain ⟨t2, d2⟩ := a
      have h2 : d1 = d2 := hE.defers
      subst h2
      congr
      refine Array.ext_getElem? fun t => ?_
      exact hE.at_ t fun i o hi ho hl hd => by have := (Array.getElem?_eq_some_iff.1 ho).1; omega
    subst hbE
    have h3 := hT w hS (fun j hj => hF j hj (hall j (by omega)))
    have hl2 : listed = lst ops.size kt := by
      refine Array.ext (by simp [lst, hsz]) fun i h1 h2 => ?_
      have h5 := hall i (by omega)
      have h6 : listed[i] = true := by simpa [Array.getD, h1] using h5
      rw [h6]
      simp [lst]
      omega
    rw [hl2]
    rw [show ops.size - kt = 0 by omega] at h3
    exact h3
  | succ fuel ih =>
    intro listed a w hsz hc hsh hlate hag hS hF
    by_cases hdone : ∀ j, j < kt → listed.getD j true = true
    · obtain ⟨_, bE, hE, hT⟩ := wkf_at hok kt 0 a0 (by omega) hW hag
      have hbE : bE = a := by
        obtain ⟨t1, d1⟩ := bE
        obtain ⟨t2, d2⟩ := a
        have h2 : d1 = d2 := hE.defers
        subst h2
        congr
        refine Array.ext_getElem? fun t => ?_
        exact hE.at_ t fun i o hi ho hl hd => by
          have h1 := (Array.getElem?_eq_some_iff.1 ho).1
          rw [hlate i hi h1] at hl
          cases hl
      subst hbE
      have h3 := hT w hS (fun j hj => hF j hj (hdone j hj))
      have hl2 : listed = lst ops.size kt := by
        refine Array.ext (by simp [lst, hsz]) fun i h1 h2 => ?_
        have h5 : listed[i] = listed.getD i true := by simp [Array.getD, h1]
        rw [h5]
        rcases Nat.lt_or_ge i kt with h | h
        · rw [hdone i h]; simp [lst, h]
        · rw [hlate i h (by omega)]; simp [lst]; omega
      have hcc : ops.size - kt = fuel + 1 := by
        rw [← hc]
        have h7 : ∀ n, n ≤ ops.size → (List.range n).countP (fun i => !listed.getD i true) = n - kt := by
          intro n
          induction n with
          | zero => intro _; simp
          | succ n ihn =>
            intro hn
            rw [List.range_succ, List.countP_append, ihn (by omega)]
            rcases Nat.lt_or_ge n kt with h | h
            · rw [List.countP_cons, List.countP_nil, hdone n h, if_neg (by decide)]; omega
            · rw [List.countP_cons, List.countP_nil, hlate n h (by omega), if_pos (by decide)]; omega
        exact (h7 ops.size (Nat.le_refl _)).symm
      rw [← hcc, hl2]
      exact h3
    · refine ⟨fun hr => ?_, fun i hi => ?_⟩
      · exact absurd (fun j hj => all_listed hok hsz hr (j + 1) j (by omega) _ (Array.getElem?_eq_getElem (show j < ops.size by omega))) hdone
      · obtain ⟨hl, o, ho, hd⟩ := mem_ready.1 hi
        have hio := (Array.getElem?_eq_some_iff.1 ho).1
        have hil : i < listed.size := by omega
        have hik : i < kt := by
          rcases Nat.lt_or_ge i kt with h | h
          · exact h
          · refine absurd (fun j hj => ?_) hdone
            have := waits_listed hsh ops.size i j (tailOk_at htl hio h hj) fun o' ho' => by
              rw [ho] at ho'
              injection ho' with ho'
              subst ho'
              exact hd
            rwa [getD_tf (by omega)] at this
        have hset : ∀ j, j ≠ i → (listed.setIfInBounds i true).getD j true = listed.getD j true := fun j hj => getD_set_ne true (Ne.symm hj)
        have hseti : (listed.setIfInBounds i true).getD i true = true := by simp [Array.getD, hil]
        have hsz' : (listed.setIfInBounds i true).size = ops.size := by simpa using hsz
        have hc' : (List.range ops.size).countP (fun j => !(listed.setIfInBounds i true).getD j true) = fuel := by
          have h7 : ∀ n, (List.range n).countP (fun j => !(listed.setIfInBounds i true).getD j true) + (if i < n then 1 else 0) = (List.range n).countP (fun j => !listed.getD j true) := by
            intro n
            induction n with
            | zero => simp
            | succ n ihn =>
              rw [List.range_succ, List.countP_append, List.countP_append]
              by_cases e : n = i
              · subst e
                rw [if_neg (by omega)] at ihn
                rw [if_pos (by omega)]
                rw [List.countP_cons, List.countP_nil, List.countP_cons, List.countP_nil, hseti, hl, if_neg (by decide), if_pos (by decide)]
                omega
              · have h8 : (if i < n + 1 then 1 else 0) = (if i < n then 1 else 0) := by
                  by_cases h9 : i < n
                  · rw [if_pos h9, if_pos (by omega)]
                  · rw [if_neg h9, if_neg (by omega)]
                rw [h8, List.countP_cons, List.countP_nil, List.countP_cons, List.countP_nil, hset n e]
                omega
          have := h7 ops.size
          rw [if_pos hio, hc] at this
          omega
        have hsh' : Shut ops (listed.setIfInBounds i true) := by
          intro q oq hoq hlq e he hb
          have hq := (Array.getElem?_eq_some_iff.1 hoq).1
          rw [getD_tf (by omega)] at hlq
          have hmono' : listed.getD e.on false = true → (listed.setIfInBounds i true).getD e.on false = true := fun h => getD_set_true h
          by_cases hqi : q = i
          · subst hqi
            rw [ho] at hoq
            injection hoq with hoq
            subst hoq
            exact hmono' (hd e he hb)
          · rw [hset q hqi] at hlq
            exact hmono' (hsh q oq hoq (by rw [getD_tf (by omega)]; exact hlq) e he hb)
        obtain ⟨hst, _⟩ := wkf_at hok kt 0 a0 (by omega) hW hag
        obtain ⟨bi, o', ho', hagi, hstep⟩ := hst i (Nat.zero_le _) hik
        rw [ho] at ho'
        injection ho' with ho'
        subst ho'
        have hF1 : ∀ j, edgeB o j = true → F j (valAt ops a j) w := by
          intro j hj
          have hji := edge_lt hok ho j hj
          refine hF j (by omega) ?_
          unfold edgeB at hj
          obtain ⟨e, he, hb⟩ := List.any_eq_true.1 hj
          simp only [Bool.and_eq_true, beq_iff_eq] at hb
          have := hd e (Array.mem_toList_iff.1 he) hb.1
          rw [hb.2, getD_tf (by omega)] at this
          exact this
        obtain ⟨hw1, hwp⟩ := stepK_to (Q := Q) hok ho hagi hstep (edge_lt hok ho) hS hF1 (K := wpAny P .any ops Q fuel (listed.setIfInBounds i true)) (fun u w' hS' hM hF' => ih _ _ _ hsz' hc' hsh' (fun q hq hqs => by rw [hset q (by omega)]; exact hlate q hq hqs)
          ⟨by rw [put_size]; exact hag.size, by rw [put_defers]; exact hag.defers, fun t ht => by
            have hdt : o.dst ≠ some t := ht i o (Nat.zero_le _) ho hseti
            rw [put_other hdt]
            exact hag.at_ t fun q oq hq hoq hlq => ht q oq hq hoq (by
              by_cases hqi : q = i
              · subst hqi; exact hseti
              · rw [hset q hqi]; exact hlq)⟩ hS' (fun j hj hlj => by
            by_cases hji : j = i
            · subst hji; exact hF'
            · rw [hset j hji] at hlj
              have h8 : valAt ops (a.put o.dst u) j = valAt ops a j := by
                unfold valAt
                cases hoj : ops[j]? with
                | none => rfl
                | some oj =>
                  cases hdj : oj.dst with
                  | none => simp [hdj]
                  | some d =>
                    simp only [Option.bind_some, hdj]
                    have h9 : o.dst ≠ some d := ((regOkT_at hok ho).2.2 j oj d hji hoj hdj).1
                    simp only [Array.getD_eq_getD_getElem?, put_other h9]
              rw [h8]
              exact hmono j _ _ _ (hF j hj hlj) hM))
        unfold wpOp
        simp only [ho]
        rw [if_pos hw1]
        exact .inl hwp

/-- The beginning: kt operations with facts, then the others. -/
theorem wp_region_fk {id : Nat} {a : Act} {w : World} {Q : Exit → Act → World → Prop} (S : World → Prop) (F : Nat → Value → World → Prop) (kt : Nat) (hm : P.follows .mixedOrders = true) (hok : regOkT ops ops.size = true) (hkt : kt ≤ ops.size) (htl : tailOk ops kt = true)
    (hmono : ∀ k v w w', F k v w → Mk0 w w' → F k v w') (hS : S w.drew)
    (h : WkF P ops (wpAny P .any ops Q (ops.size - kt) (lst ops.size kt)) S F kt kt 0 a) : (Code.region id ops true).wp P Q a w := by
  refine wp_region_any hm (wpAny_f hok hkt htl hmono h ops.size _ a _ (by simp) ?_ ?_ ?_ ⟨rfl, rfl, fun t _ => rfl⟩ hS ?_)
  · rw [List.countP_eq_length.2]
    · simp
    · intro i hi
      have := List.mem_range.1 hi
      simp [Array.getD, this]
  · intro i o ho hl
    simp [Array.getD] at hl
  · intro i _ hi
    simp [Array.getD, hi]
  · intro j hj hl
    have : j < ops.size := by omega
    simp [Array.getD, this] at hl
end
def fkF (l : List (Value → World → Prop)) (k : Nat) (v : Value) (w : World) : Prop := (l.getD k (fun _ _ => True)) v w
def fkM : List (Value → World → Prop) → Prop
  | [] => True
  | p :: l => (∀ v w w', p v w → Mk0 w w' → p v w') ∧ fkM l
theorem fkM_mono : ∀ {l : List (Value → World → Prop)}, fkM l → ∀ k v w w', fkF l k v w → Mk0 w w' → fkF l k v w'
  | [], _, k, v, w, w', _, _ => by unfold fkF; simp
  | p :: l, h, 0, v, w, w', hp, m => h.1 v w w' hp m
  | p :: l, h, k + 1, v, w, w', hp, m => fkM_mono (l := l) h.2 k v w w' hp m
end Go.Proofs.Ytdlafigjkefllaa
