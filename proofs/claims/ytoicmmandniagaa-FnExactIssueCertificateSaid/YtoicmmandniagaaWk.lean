
/- A region that draws its order, walked once, in the order of its text: each operation is shown once, in any world that meets S; which one comes up when makes no difference. -/
import Derived.Orders
import Derived.Tactics
namespace Go.Proofs.Ytoicmmandniagaa
open Go
set_option linter.unusedVariables false

/-- Each operation waits for those whose temporaries it looks at, and all that it waits for lies ahead of it; no temporary is written twice. -/
def regOk (ops : Array Oper) : Bool :=
  Region.noSelect ops && (List.range ops.size).all fun i => match ops[i]? with
    | none => true
    | some o => (o.after.all fun e => !Region.binds .any e || decide (e.on < i)) && (match o.dst with | none => true | some d => !(o.looksAt ops).contains d) &&
        (List.range ops.size).all fun j => j == i || match ops[j]? with
          | none => true
          | some o' => match o'.dst with
            | none => true
            | some d => (o.dst != some d) && (!(o.looksAt ops).contains d || (o.after.any fun e => Region.binds .any e && e.on == j))

section
variable {P : Program} {ops : Array Oper} {Q : Exit → Act → World → Prop} {S : World → Prop}

theorem regOk_sel (h : regOk ops = true) : Region.noSelect ops = true := by
  unfold regOk at h
  simp only [Bool.and_eq_true] at h
  exact h.1
theorem regOk_at (h : regOk ops = true) {i : Nat} {o : Oper} (hi : ops[i]? = some o) :
    (∀ e ∈ o.after, Region.binds .any e = true → e.on < i) ∧ (∀ d, o.dst = some d → d ∉ o.looksAt ops) ∧
    ∀ j o' d, j ≠ i → ops[j]? = some o' → o'.dst = some d → o.dst ≠ some d ∧ (d ∈ o.looksAt ops → ∃ e ∈ o.after, Region.binds .any e = true ∧ e.on = j) := by
  unfold regOk at h
  simp only [Bool.and_eq_true, List.all_eq_true, List.mem_range] at h
  have hlt := (Array.getElem?_eq_some_iff.1 hi).1
  have h1 := h.2 i hlt
  simp only [hi, Bool.and_eq_true] at h1
  obtain ⟨⟨ha, hb⟩, hc⟩ := h1
  refine ⟨fun e he hb => ?_, fun d hd => ?_, fun j o' d hj ho' hd => ?_⟩
  · have := Array.all_eq_true_iff_forall_mem.1 ha e he
    simpa [hb] using this
  · simp only [hd] at hb
    simpa using hb
  · simp only [List.all_eq_true, List.mem_range] at hc
    have h2 := hc j (Array.getElem?_eq_some_iff.1 ho').1
    simp only [ho', hd, Bool.or_eq_true, beq_iff_eq, hj, false_or, Bool.and_eq_true] at h2
    refine ⟨by simpa using h2.1, fun hm => ?_⟩
    have h3 := h2.2
    rcases h3 with h3 | h3
    · simp at h3
      exact absurd hm h3
    · obtain ⟨e, he, hb⟩ := Array.any_eq_true'.1 h3
      simp only [Bool.and_eq_true, beq_iff_eq] at hb
      exact ⟨e, he, hb.1, hb.2⟩

abbrev noOut : Exit → Act → World → Prop := fun _ _ _ => False

/-- The operation leaves the frame as it is: its value stands there already. -/
def StepV (P : Program) (ops : Array Oper) (S : World → Prop) (aF : Act) (i : Nat) : Prop :=
  ∀ o, ops[i]? = some o → (Region.wanted o (yielded ops aF.tmps) = true → ∀ w, S w → o.wp P aF w (fun a' w' => a' = aF ∧ S w') noOut) ∧ (Region.wanted o (yielded ops aF.tmps) = false → aF.put o.dst undef = aF)

theorem put_eq_iff {a : Act} {dst : Option Tmp} {v : Value} : a.put dst v = a ↔ ∀ d, dst = some d → d < a.tmps.size → a.tmps[d]? = some v := by
  constructor
  · intro h d hd hlt
    subst hd
    have : (a.put (some d) v).tmps[d]? = a.tmps[d]? := by rw [h]
    rw [← this]
    simp [Act.put, hlt]
  · intro h
    cases dst with
    | none => rfl
    | some d =>
      obtain ⟨tmps, defers⟩ := a
      simp only [Act.put, Act.mk.injEq, and_true]
      refine Array.ext_getElem? fun i => ?_
      rw [Array.getElem?_setIfInBounds]
      split
      · rename_i he
        subst he
        split
        · rename_i hlt
          exact (h d rfl hlt).symm
        · rename_i hge
          rw [Array.getElem?_eq_none (by simpa using hge)]
      · rfl

theorem upon_transfer {o : Oper} {a aF : Act} {r : Result Next} {K : Act → World → Prop}
    (hK : ∀ u w', aF.put o.dst u = aF → S w' → K (a.put o.dst u) w')
    (hd : aF.defers = a.defers)
    (h : o.upon P aF (fun a' w' => a' = aF ∧ S w') noOut r) : o.upon P a K Q r := by
  cases r with
  | ok n w' =>
    cases n with
    | value u => exact hK _ _ h.1 h.2
    | skip => exact hK _ _ h.1 h.2
    | defer d =>
      have h1 : ({ aF with defers := d :: aF.defers }.put o.dst undef) = aF := h.1
      have h2 : (({ aF with defers := d :: aF.defers } : Act).put o.dst undef).defers = d :: aF.defers := by cases o.dst <;> rfl
      rw [h1] at h2
      have := congrArg List.length h2
      simp at this
    | enter f args =>
      refine Calls.mono (show Calls P f args w' _ from h) fun e w'' he => ?_
      cases e with
      | returned v => exact hK _ _ he.1 he.2
      | panicked c => exact (he : False).elim
      | outgrown =>
        obtain ⟨_, _, hf⟩ := (he : LetsOut noOut)
        exact (hf : False).elim
    | row row args => exact Rows.mono (show Rows P row args w' _ from h) fun v w'' he => hK _ _ he.1 he.2
    | _ => exact (h : False).elim
  | halt x w' => cases x <;> exact (h : False).elim

/-- The frame a is as aF, but for what the operations that have not come up will write. -/
structure Agrees (ops : Array Oper) (listed : Array Bool) (aF a : Act) : Prop where
  size : a.tmps.size = aF.tmps.size
  defers : aF.defers = a.defers
  at_ : ∀ t, (∀ i o, ops[i]? = some o → listed.getD i true = false → o.dst ≠ some t) → a.tmps[t]? = aF.tmps[t]?

theorem countP_lt {p p' : Nat → Bool} (h : ∀ j, p' j = true → p j = true) {i : Nat} (hi : p i = true) (hi' : p' i = false) : ∀ l : List Nat, i ∈ l → l.countP p' < l.countP p
  | [], hm => by cases hm
  | x :: l, hm => by
    have hle : l.countP p' ≤ l.countP p := List.countP_mono_left fun j _ => h j
    rw [List.countP_cons, List.countP_cons]
    rcases List.mem_cons.1 hm with rfl | hm
    · simp only [hi, hi', if_true]
      simp
      omega
    · have := countP_lt h hi hi' l hm
      have hx := h x
      cases hp' : p' x <;> cases hp : p x <;> simp <;> (try omega)
      rw [hx hp'] at hp
      cases hp

theorem wpAny_vals (hok : regOk ops = true) {aF : Act} (hstep : ∀ i, StepV P ops S aF i) (hfin : ∀ w, S w → Q .normal aF w) :
    ∀ (fuel : Nat) (listed : Array Bool) (a : Act) (w : World), listed.size = ops.size → (List.range ops.size).countP (fun i => !listed.getD i true) ≤ fuel →
      Agrees ops listed aF a → S w → wpAny P .any ops Q fuel listed a w := by
  have key : ∀ (listed : Array Bool) (a : Act) (w : World), listed.size = ops.size → Agrees ops listed aF a → S w → Region.ready .any ops listed = [] → Q .normal a w := by
    intro listed a w hsz hag hS hr
    have hall : ∀ n, ∀ i, i < n → ∀ o, ops[i]? = some o → listed.getD i true = true := by
      intro n
      induction n with
      | zero => intro i hi; omega
      | succ n ih =>
        intro i hi o ho
        cases hl : listed.getD i true with
        | true => rfl
        | false =>
          have : i ∈ Region.ready .any ops listed := mem_ready.2 ⟨hl, o, ho, fun e he hb => by
            have hlt := (regOk_at hok ho).1 e he hb
            have hio := (Array.getElem?_eq_some_iff.1 ho).1
            obtain ⟨oe, hoe⟩ : ∃ oe, ops[e.on]? = some oe := ⟨_, Array.getElem?_eq_getElem (by omega)⟩
            have := ih e.on (by omega) oe hoe
            have hls : e.on < listed.size := by omega
            simpa [Array.getD, hls] using this⟩
          rw [hr] at this
          cases this
    have : a = aF := by
      obtain ⟨tmps, defers⟩ := a
      obtain ⟨tF, dF⟩ := aF
      have h2 : dF = defers := hag.defers
      subst h2
      congr
      refine Array.ext_getElem? fun t => ?_
      exact hag.at_ t fun i o ho hl => by rw [hall (i + 1) i (by omega) o ho] at hl; cases hl
    rw [this]
    exact hfin w hS
  intro fuel
  induction fuel with
  | zero =>
    intro listed a w hsz hc hag hS
    have hr : Region.ready .any ops listed = [] := by
      rw [List.eq_nil_iff_forall_not_mem]
      intro i hi
      obtain ⟨hl, o, ho, _⟩ := mem_ready.1 hi
      have h0 : (List.range ops.size).countP (fun i => !listed.getD i true) = 0 := by omega
      rw [List.countP_eq_zero] at h0
      have := h0 i (List.mem_range.2 (Array.getElem?_eq_some_iff.1 ho).1)
      simp [hl] at this
    exact ⟨hr, key listed a w hsz hag hS hr⟩
  | succ fuel ih =>
    intro listed a w hsz hc hag hS
    refine ⟨key listed a w hsz hag hS, fun i hi => ?_⟩
    obtain ⟨hl, o, ho, hdone⟩ := mem_ready.1 hi
    have hio := (Array.getElem?_eq_some_iff.1 ho).1
    obtain ⟨h1, h2, h3⟩ := regOk_at hok ho
    have hno : ∀ t ∈ o.looksAt ops, a.tmps[t]? = aF.tmps[t]? := fun t ht => hag.at_ t fun j oj hoj hlj hdj => by
      by_cases hji : j = i
      · subst hji
        rw [ho] at hoj
        injection hoj with hoj
        subst hoj
        exact h2 t hdj ht
      · obtain ⟨e, he, hb, heq⟩ := (h3 j oj t hji hoj hdj).2 ht
        have := hdone e he hb
        rw [heq] at this
        have hj := (Array.getElem?_eq_some_iff.1 hoj).1
        simp [Array.getD, show j < listed.size by omega] at this hlj
        rw [this] at hlj
        cases hlj
    have hev : execOp a.eval o = execOp aF.eval o := execOp_congr o (Region.noSelect_spec (regOk_sel hok) i o · · ho) fun x hx => by
      cases x with
      | tmp t =>
        have := hno t (List.mem_append_left _ (List.mem_filterMap.2 ⟨.tmp t, by simpa using hx, rfl⟩))
        simp only [Act.eval, Array.getD_eq_getD_getElem?, this]
      | _ => rfl
    have hw : Region.wanted o (yielded ops a.tmps) = Region.wanted o (yielded ops aF.tmps) := by
      unfold Region.wanted
      cases hg : o.guard with
      | none => rfl
      | some gw =>
        obtain ⟨g, want⟩ := gw
        have hy : yielded ops a.tmps g = yielded ops aF.tmps g := by
          unfold yielded
          cases ht : (ops[g]?).bind (·.dst) with
          | none => rfl
          | some t =>
            have := hno t (List.mem_append_right _ (by simp [hg, ht]))
            simp only [Option.bind_some, this]
        simp only [hy]
    have hnext : ∀ u w', aF.put o.dst u = aF → S w' → wpAny P .any ops Q fuel (listed.setIfInBounds i true) (a.put o.dst u) w' := by
      intro u w' hu hS'
      refine ih _ _ _ (by simpa using hsz) ?_ ?_ hS'
      · have hil : i < listed.size := by omega
        have := countP_lt (p := fun j => !listed.getD j true) (p' := fun j => !(listed.setIfInBounds i true).getD j true) (i := i)
          (fun j hj => by
            by_cases hji : i = j
            · subst hji; simp [Array.getD, hil] at hj
            · rw [getD_set_ne true hji] at hj; exact hj) (by simp [hl]) (by simp [Array.getD, hil]) _ (List.mem_range.2 hio)
        omega
      · have hpu := put_eq_iff.1 hu
        refine ⟨?_, ?_, fun t ht => ?_⟩
        · cases hd : o.dst <;> simp [Act.put, hag.size]
        · cases hd : o.dst <;> simp [Act.put, hag.defers]
        · have hil : i < listed.size := by omega
          by_cases hdt : o.dst = some t
          · have hlt := hpu t hdt
            rw [hdt]
            simp only [Act.put]
            rw [Array.getElem?_setIfInBounds, if_pos rfl]
            split
            · rename_i hs
              exact (hlt (by rw [← hag.size]; exact hs)).symm
            · rename_i hs
              exact (Array.getElem?_eq_none (by rw [← hag.size]; omega)).symm
          · have e1 : (a.put o.dst u).tmps[t]? = a.tmps[t]? := by
              cases hd : o.dst with
              | none => rfl
              | some d =>
                simp only [Act.put]
                rw [Array.getElem?_setIfInBounds, if_neg (fun e => hdt (by rw [hd, e]))]
            rw [e1]
            refine hag.at_ t fun j oj hoj hlj => ?_
            by_cases hji : i = j
            · subst hji
              rw [ho] at hoj
              injection hoj with hoj
              subst hoj
              exact hdt
            · exact ht j oj hoj (by rw [getD_set_ne true hji]; exact hlj)
    unfold wpOp
    simp only [ho]
    have hs := hstep i o ho
    rw [← hw] at hs
    cases hwv : Region.wanted o (yielded ops a.tmps) with
    | true =>
      rw [if_pos rfl]
      refine .inl ?_
      have h4 := hs.1 hwv w hS
      unfold Oper.wp at *
      rw [hev]
      exact upon_transfer hnext hag.defers h4
    | false =>
      rw [if_neg (by decide)]
      exact hnext _ _ (hs.2 hwv) hS

/-- The walk: operation k and those behind it, from the frame a on. -/
def Wk (P : Program) (ops : Array Oper) (Q : Exit → Act → World → Prop) (S : World → Prop) : Nat → Nat → Act → Prop
  | 0, _, a => ∀ w, S w → Q .normal a w
  | m + 1, k, a => ∃ (v : Value) (o : Oper), ops[k]? = some o ∧
      ((Region.wanted o (yielded ops a.tmps) = true ∧ ∀ w, S w → o.wp P a w (fun a' w' => a' = a.put o.dst v ∧ S w') noOut) ∨ (Region.wanted o (yielded ops a.tmps) = false ∧ v = undef)) ∧
      Wk P ops Q S m (k + 1) (a.put o.dst v)
theorem Wk.step {m k : Nat} {a : Act} {v : Value} {o : Oper} (ho : ops[k]? = some o) (hw : Region.wanted o (yielded ops a.tmps) = true)
    (hv : ∀ w, S w → (execOp a.eval o).run P w = .ok (.value v) w) (h : Wk P ops Q S m (k + 1) (a.put o.dst v)) : Wk P ops Q S (m + 1) k a :=
  ⟨v, o, ho, .inl ⟨hw, fun w hS => by unfold Oper.wp; rw [hv w hS]; exact ⟨rfl, hS⟩⟩, h⟩
theorem Wk.skip {m k : Nat} {a : Act} {o : Oper} (ho : ops[k]? = some o) (hw : Region.wanted o (yielded ops a.tmps) = false)
    (h : Wk P ops Q S m (k + 1) (a.put o.dst undef)) : Wk P ops Q S (m + 1) k a := ⟨undef, o, ho, .inr ⟨hw, rfl⟩, h⟩
/-- A call: its arguments, and what it is known to return. -/
theorem Wk.call {m k : Nat} {a : Act} {v : Value} {o : Oper} (f : FuncId) (args : Array Value) (ho : ops[k]? = some o) (hw : Region.wanted o (yielded ops a.tmps) = true)
    (he : ∀ w, S w → (execOp a.eval o).run P w = .ok (.enter f args) w) (hc : ∀ w, S w → Calls P f args w fun e w' => e = .returned v ∧ S w')
    (h : Wk P ops Q S m (k + 1) (a.put o.dst v)) : Wk P ops Q S (m + 1) k a :=
  ⟨v, o, ho, .inl ⟨hw, fun w hS => by
    unfold Oper.wp
    rw [he w hS]
    refine Calls.mono (hc w hS) ?_
    rintro e w' ⟨rfl, hS'⟩
    exact ⟨rfl, hS'⟩⟩, h⟩
theorem Wk.done {k : Nat} {a : Act} (h : ∀ w, S w → Q .normal a w) : Wk P ops Q S 0 k a := h

theorem wk_out (hok : regOk ops = true) : ∀ (m k : Nat) (a : Act), m + k = ops.size → Wk P ops Q S m k a →
    ∃ aF, (∀ i, k ≤ i → StepV P ops S aF i) ∧ (∀ w, S w → Q .normal aF w) ∧ aF.tmps.size = a.tmps.size ∧ aF.defers = a.defers ∧
      ∀ t, (∀ i o, k ≤ i → ops[i]? = some o → o.dst ≠ some t) → aF.tmps[t]? = a.tmps[t]?
  | 0, k, a, hk, h => ⟨a, fun i hi o ho => by have := (Array.getElem?_eq_some_iff.1 ho).1; omega, h, rfl, rfl, fun _ _ => rfl⟩
  | m + 1, k, a, hk, ⟨v, o, ho, hstep, h⟩ => by
    obtain ⟨aF, h1, h2, h3, h4, h5⟩ := wk_out hok m (k + 1) _ (by omega) h
    obtain ⟨q1, q2, q3⟩ := regOk_at hok ho
    have hd : (a.put o.dst v).defers = a.defers := by cases o.dst <;> rfl
    have hsz : (a.put o.dst v).tmps.size = a.tmps.size := by cases o.dst <;> simp [Act.put]
    have hsF : aF.tmps.size = a.tmps.size := h3.trans hsz
    have hlate : ∀ t, t ∈ o.looksAt ops → aF.tmps[t]? = a.tmps[t]? := by
      intro t ht
      have e1 : (a.put o.dst v).tmps[t]? = a.tmps[t]? := by
        cases hdst : o.dst with
        | none => rfl
        | some d =>
          simp only [Act.put]
          rw [Array.getElem?_setIfInBounds, if_neg (by rintro rfl; exact q2 _ hdst ht)]
      rw [← e1]
      refine h5 t fun i oi hi hoi hdi => ?_
      obtain ⟨e, he, hb, heq⟩ := (q3 i oi t (by omega) hoi hdi).2 ht
      have := q1 e he hb
      omega
    have hdstF : ∀ d, o.dst = some d → d < aF.tmps.size → aF.tmps[d]? = some v := by
      intro d hdd hlt
      rw [h5 d fun i oi hi hoi hdi => (q3 i oi d (by omega) hoi hdi).1 hdd, hdd]
      have hlt2 : d < a.tmps.size := hsF ▸ hlt
      simp [Act.put, hlt2]
    refine ⟨aF, fun i hi => ?_, h2, h3.trans hsz, h4.trans hd, fun t ht => ?_⟩
    · by_cases hik : i = k
      · subst hik
        intro o' ho'
        rw [ho] at ho'
        injection ho' with ho'
        subst ho'
        have hev : execOp aF.eval o = execOp a.eval o := execOp_congr o (Region.noSelect_spec (regOk_sel hok) i o · · ho) fun x hx => by
          cases x with
          | tmp t =>
            have := hlate t (List.mem_append_left _ (List.mem_filterMap.2 ⟨.tmp t, by simpa using hx, rfl⟩))
            simp only [Act.eval, Array.getD_eq_getD_getElem?, this]
          | _ => rfl
        have hw : Region.wanted o (yielded ops aF.tmps) = Region.wanted o (yielded ops a.tmps) := by
          unfold Region.wanted
          cases hg : o.guard with
          | none => rfl
          | some gw =>
            obtain ⟨g, want⟩ := gw
            have hy : yielded ops aF.tmps g = yielded ops a.tmps g := by
              unfold yielded
              cases ht : (ops[g]?).bind (·.dst) with
              | none => rfl
              | some t =>
                have := hlate t (List.mem_append_right _ (by simp [hg, ht]))
                simp only [Option.bind_some, this]
            simp only [hy]
        rw [hw]
        rcases hstep with ⟨hw1, hwp⟩ | ⟨hw1, rfl⟩
        · refine ⟨fun _ w hS => ?_, fun hf => by rw [hw1] at hf; cases hf⟩
          have h6 := hwp w hS
          unfold Oper.wp at *
          rw [hev]
          have hput : ∀ u, a.put o.dst u = a.put o.dst v → aF.put o.dst u = aF := fun u hu => put_eq_iff.2 fun d hdd hlt => by
            rw [hdstF d hdd hlt]
            rw [hdd] at hu
            have h7 : (a.put (some d) u).tmps[d]? = (a.put (some d) v).tmps[d]? := by rw [hu]
            have hlt2 : d < a.tmps.size := hsF ▸ hlt
            simp [Act.put, hlt2] at h7
            rw [h7]
          revert h6
          generalize (execOp a.eval o).run P w = r
          intro h6
          cases r with
          | ok n w' =>
            cases n with
            | value u => exact ⟨hput _ h6.1, h6.2⟩
            | skip => exact ⟨hput _ h6.1, h6.2⟩
            | defer d =>
              have h7 : ({ a with defers := d :: a.defers }.put o.dst undef) = a.put o.dst v := h6.1
              have h8 : (({ a with defers := d :: a.defers } : Act).put o.dst undef).defers = d :: a.defers := by cases o.dst <;> rfl
              rw [h7, hd] at h8
              have := congrArg List.length h8
              simp at this
            | enter f args =>
              refine Calls.mono (show Calls P f args w' _ from h6) fun e w'' he => ?_
              cases e with
              | returned u => exact ⟨hput _ he.1, he.2⟩
              | panicked c => exact he
              | outgrown => exact he
            | row row args => exact Rows.mono (show Rows P row args w' _ from h6) fun u w'' he => ⟨hput _ he.1, he.2⟩
            | _ => exact h6
          | halt x w' => cases x <;> exact h6
        · refine ⟨fun hf => (by rw [hw1] at hf; cases hf), fun _ => put_eq_iff.2 hdstF⟩
      · exact h1 i (by omega)
    · have e1 : (a.put o.dst v).tmps[t]? = a.tmps[t]? := by
        cases hdst : o.dst with
        | none => rfl
        | some d =>
          simp only [Act.put]
          rw [Array.getElem?_setIfInBounds, if_neg (fun e => ht k o (Nat.le_refl _) ho (by rw [hdst, e]))]
      rw [← e1]
      exact h5 t fun i oi hi => ht i oi (by omega)

/-- The beginning: a region that asks the tape, walked in the order of its text. -/
theorem wp_region_wk {id : Nat} {a : Act} {w : World} {Q : Exit → Act → World → Prop} (S : World → Prop) (hm : P.follows .mixedOrders = true) (hok : regOk ops = true) (hS : S w.drew)
    (h : Wk P ops Q S ops.size 0 a) : (Code.region id ops true).wp P Q a w := by
  obtain ⟨aF, h1, h2, h3, h4, h5⟩ := wk_out hok ops.size 0 a rfl h
  refine wp_region_any hm (wpAny_vals hok (fun i => h1 i (Nat.zero_le _)) h2 ops.size _ a _ (by simp) ?_ ⟨h3.symm, h4, fun t ht => (h5 t fun i o _ ho => ht i o ho ?_).symm⟩ hS)
  · exact Nat.le_trans List.countP_le_length (by simp)
  · have := (Array.getElem?_eq_some_iff.1 ho).1
    simp [Array.getD, this]
end
end Go.Proofs.Ytoicmmandniagaa
