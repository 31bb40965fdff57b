
/- A region that draws its order, walked once, in the order of its text: each operation is shown once, in any world that meets S; which one comes up when makes no difference. -/
import Derived.Orders
import Derived.Tactics
import Derived.Test.YtdlafigjkefllaaRow
namespace Go.Proofs.Ytdlafigjkefllaa
open Go
set_option linter.unusedVariables false

/-- Each operation waits for those whose temporaries it looks at, and all that it waits for lies ahead of it; no temporary is written twice. -/
def regOk (ops : Array Oper) : Bool :=
  Region.noSelect ops && (List.range ops.size).all fun i => match ops[i]? with
    | none => true
    | some o => (o.after.all fun e => !Region.binds .any e || decide (e.on < i)) && (match o.dst with | none => true | some d => !(o.looksAt ops).contains d) &&
        (List.range ops.size).all fun j => j == i || match ops[j]? with
          | none => true
          | some o' => match o'.dst with
            | none => true
            | some d => (o.dst != some d) && (!(o.looksAt ops).contains d || (o.after.any fun e => Region.binds .any e && e.on == j))

section
variable {P : Program} {ops : Array Oper} {Q : Exit → Act → World → Prop} {S : World → Prop}

theorem regOk_sel (h : regOk ops = true) : Region.noSelect ops = true := by
  unfold regOk at h
  simp only [Bool.and_eq_true] at h
  exact h.1
theorem regOk_at (h : regOk ops = true) {i : Nat} {o : Oper} (hi : ops[i]? = some o) :
    (∀ e ∈ o.after, Region.binds .any e = true → e.on < i) ∧ (∀ d, o.dst = some d → d ∉ o.looksAt ops) ∧
    ∀ j o' d, j ≠ i → ops[j]? = some o' → o'.dst = some d → o.dst ≠ some d ∧ (d ∈ o.looksAt ops → ∃ e ∈ o.after, Region.binds .any e = true ∧ e.on = j) := by
  unfold regOk at h
  simp only [Bool.and_eq_true, List.all_eq_true, List.mem_range] at h
  have hlt := (Array.getElem?_eq_some_iff.1 hi).1
  have h1 := h.2 i hlt
  simp only [hi, Bool.and_eq_true] at h1
  obtain ⟨⟨ha, hb⟩, hc⟩ := h1
  refine ⟨fun e he hb => ?_, fun d hd => ?_, fun j o' d hj ho' hd => ?_⟩
  · have := Array.all_eq_true_iff_forall_mem.1 ha e he
    simpa [hb] using this
  · simp only [hd] at hb
    simpa using hb
  · simp only [List.all_eq_true, List.mem_range] at hc
    have h2 := hc j (Array.getElem?_eq_some_iff.1 ho').1
    simp only [ho', hd, Bool.or_eq_true, beq_iff_eq, hj, false_or, Bool.and_eq_true] at h2
    refine ⟨by simpa using h2.1, fun hm => ?_⟩
    have h3 := h2.2
    rcases h3 with h3 | h3
    · simp at h3
      exact absurd hm h3
    · obtain ⟨e, he, hb⟩ := Array.any_eq_true'.1 h3
      simp only [Bool.and_eq_true, beq_iff_eq] at hb
      exact ⟨e, he, hb.1, hb.2⟩

abbrev noOut : Exit → Act → World → Prop := fun _ _ _ => False

/-- The operation leaves the frame as it is: its value stands there already. -/
def StepV (P : Program) (ops : Array Oper) (S : World → Prop) (aF : Act) (i : Nat) : Prop :=
  ∀ o, ops[i]? = some o → (Region.wanted o (yielded ops aF.tmps) = true → ∀ w, S w → o.wp P aF w (fun a' w' => a' = aF ∧ S w') noOut) ∧ (Region.wanted o (yielded ops aF.tmps) = false → aF.put o.dst undef = aF)

theorem put_eq_iff {a : Act} {dst : Option Tmp} {v : Value} : a.put dst v = a ↔ ∀ d, dst = some d → d < a.tmps.size → a.tmps[d]? = some v := by
  constructor
  · intro h d hd hlt
    subst hd
    have : (a.put (some d) v).tmps[d]? = a.tmps[d]? := by rw [h]
    rw [← this]
    simp [Act.put, hlt]
  · intro h
    cases dst with
    | none => rfl
    | some d =>
      obtain ⟨tmps, defers⟩ := a
      simp only [Act.put, Act.mk.injEq, and_true]
      refine Array.ext_getElem? fun i => ?_
      rw [Array.getElem?_setIfInBounds]
      split
      · rename_i he
        subst he
        split
        · rename_i hlt
          exact (h d rfl hlt).symm
        · rename_i hge
          rw [Array.getElem?_eq_none (by simpa using hge)]
      · rfl

theorem upon_transfer {o : Oper} {a aF : Act} {r : Result Next} {K : Act → World → Prop}
    (hK : ∀ u w', aF.put o.dst u = aF → S w' → K (a.put o.dst u) w')
    (hd : aF.defers = a.defers)
    (h : o.upon P aF (fun a' w' => a' = aF ∧ S w') noOut r) : o.upon P a K Q r := by
  cases r with
  | ok n w' =>
    cases n with
    | value u => exact hK _ _ h.1 h.2
    | skip => exact hK _ _ h.1 h.2
    | defer d =>
      have h1 : ({ aF with defers := d :: aF.defers }.put o.dst undef) = aF := h.1
      have h2 : (({ aF with defers := d :: aF.defers } : Act).put o.dst undef).defers = d :: aF.defers := by cases o.dst <;> rfl
      rw [h1] at h2
      have := congrArg List.length h2
      simp at this
    | enter f args =>
      refine Calls.mono (show Calls P f args w' _ from h) fun e w'' he => ?_
      cases e with
      | returned v => exact hK _ _ he.1 he.2
      | panicked c => exact (he : False).elim
      | outgrown =>
        obtain ⟨_, _, hf⟩ := (he : LetsOut noOut)
        exact (hf : False).elim
    | row row args => exact Rows.mono (show Rows P row args w' _ from h) fun v w'' he => hK _ _ he.1 he.2
    | _ => exact (h : False).elim
  | halt x w' => cases x <;> exact (h : False).elim

/-- The frame a is as aF, but for what the operations that have not come up will write. -/
structure Agrees (ops : Array Oper) (listed : Array Bool) (aF a : Act) : Prop where
  size : a.tmps.size = aF.tmps.size
  defers : aF.defers = a.defers
  at_ : ∀ t, (∀ i o, ops[i]? = some o → listed.getD i true = false → o.dst ≠ some t) → a.tmps[t]? = aF.tmps[t]?

theorem countP_lt {p p' : Nat → Bool} (h : ∀ j, p' j = true → p j = true) {i : Nat} (hi : p i = true) (hi' : p' i = false) : ∀ l : List Nat, i ∈ l → l.countP p' < l.countP p
  | [], hm => by cases hm
  | x :: l, hm => by
    have hle : l.countP p' ≤ l.countP p := List.countP_mono_left fun j _ => h j
    rw [List.countP_cons, List.countP_cons]
    rcases List.mem_cons.1 hm with rfl | hm
    · simp only [hi, hi', if_true]
      simp
      omega
    · have := countP_lt h hi hi' l hm
      have hx := h x
      cases hp' : p' x <;> cases hp : p x <;> simp <;> (try omega)
      rw [hx hp'] at hp
      cases hp

theorem wpAny_vals (hok : regOk ops = true) {aF : Act} (hstep : ∀ i, StepV P ops S aF i) (hfin : ∀ w, S w → Q .normal aF w) :
    ∀ (fuel : Nat) (listed : Array Bool) (a : Act) (w : World), listed.size = ops.size → (List.range ops.size).countP (fun i => !listed.getD i true) ≤ fuel →
      Agrees ops listed aF a → S w → wpAny P .any ops Q fuel listed a w := by
  have key : ∀ (listed : Array Bool) (a : Act) (w : World), listed.size = ops.size → Agrees ops listed aF a → S w → Region.ready .any ops listed = [] → Q .normal a w := by
    intro listed a w hsz hag hS hr
    have hall : ∀ n, ∀ i, i < n → ∀ o, ops[i]? = some o → listed.getD i true = true := by
      intro n
      induction n with
      | zero => intro i hi; omega
      | succ n ih =>
        intro i hi o ho
        cases hl : listed.getD i true with
        | true => rfl
        | false =>
          have : i ∈ Region.ready .any ops listed := mem_ready.2 ⟨hl, o, ho, fun e he hb => by
            have hlt := (regOk_at hok ho).1 e he hb
            have hio := (Array.getElem?_eq_some_iff.1 ho).1
            obtain ⟨oe, hoe⟩ : ∃ oe, ops[e.on]? = some oe := ⟨_, Array.getElem?_eq_getElem (by omega)⟩
            have := ih e.on (by omega) oe hoe
            have hls : e.on < listed.size := by omega
            simpa [Array.getD, hls] using this⟩
          rw [hr] at this
          cases this
    have : a = aF := by
      obtain ⟨tmps, defers⟩ := a
      obtain ⟨tF, dF⟩ := aF
      have h2 : dF = defers := hag.defers
      subst h2
      congr
      refine Array.ext_getElem? fun t => ?_
      exact hag.at_ t fun i o ho hl => by rw [hall (i + 1) i (by omega) o ho] at hl; cases hl
    rw [this]
    exact hfin w hS
  intro fuel
  induction fuel with
  | zero =>
    intro listed a w hsz hc hag hS
    have hr : Region.ready .any ops listed = [] := by
      rw [List.eq_nil_iff_forall_not_mem]
      intro i hi
      obtain ⟨hl, o, ho, _⟩ := mem_ready.1 hi
      have h0 : (List.range ops.size).countP (fun i => !listed.getD i true) = 0 := by omega
      rw [List.countP_eq_zero] at h0
      have := h0 i (List.mem_range.2 (Array.getElem?_eq_some_iff.1 ho).1)
      simp [hl] at this
    exact ⟨hr, key listed a w hsz hag hS hr⟩
  | succ fuel ih =>
    intro listed a w hsz hc hag hS
    refine ⟨key listed a w hsz hag hS, fun i hi => ?_⟩
    obtain ⟨hl, o, ho, hdone⟩ := mem_ready.1 hi
    have hio := (Array.getElem?_eq_some_iff.1 ho).1
    obtain ⟨h1, h2, h3⟩ := regOk_at hok ho
    have hno : ∀ t ∈ o.looksAt ops, a.tmps[t]? = aF.tmps[t]? := fun t ht => hag.at_ t fun j oj hoj hlj hdj => by
      by_cases hji : j = i
      · subst hji
        rw [ho] at hoj
        injection hoj with hoj
        subst hoj
        exact h2 t hdj ht
      · obtain ⟨e, he, hb, heq⟩ := (h3 j oj t hji hoj hdj).2 ht
        have := hdone e he hb
        rw [heq] at this
        have hj := (Array.getElem?_eq_some_iff.1 hoj).1
        simp [Array.getD, show j < listed.size by omega] at this hlj
        rw [this] at hlj
        cases hlj
    have hev : execOp a.eval o = execOp aF.eval o := execOp_congr o (Region.noSelect_spec (regOk_sel hok) i o · · ho) fun x hx => by
      cases x with
      | tmp t =>
        have := hno t (List.mem_append_left _ (List.mem_filterMap.2 ⟨.tmp t, by simpa using hx, rfl⟩))
        simp only [Act.eval, Array.getD_eq_getD_getElem?, this]
      | _ => rfl
    have hw : Region.wanted o (yielded ops a.tmps) = Region.wanted o (yielded ops aF.tmps) := by
      unfold Region.wanted
      cases hg : o.guard with
      | none => rfl
      | some gw =>
        obtain ⟨g, want⟩ := gw
        have hy : yielded ops a.tmps g = yielded ops aF.tmps g := by
          unfold yielded
          cases ht : (ops[g]?).bind (·.dst) with
          | none => rfl
          | some t =>
            have := hno t (List.mem_append_right _ (by simp [hg, ht]))
            simp only [Option.bind_some, this]
        simp only [hy]
    have hnext : ∀ u w', aF.put o.dst u = aF → S w' → wpAny P .any ops Q fuel (listed.setIfInBounds i true) (a.put o.dst u) w' := by
      intro u w' hu hS'
      refine ih _ _ _ (by simpa using hsz) ?_ ?_ hS'
      · have hil : i < listed.size := by omega
        have := countP_lt (p := fun j => !listed.getD j true) (p' := fun j => !(listed.setIfInBounds i true).getD j true) (i := i)
          (fun j hj => by
            by_cases hji : i = j
            · subst hji; simp [Array.getD, hil] at hj
            · rw [getD_set_ne true hji] at hj; exact hj) (by simp [hl]) (by simp [Array.getD, hil]) _ (List.mem_range.2 hio)
        omega
      · have hpu := put_eq_iff.1 hu
        refine ⟨?_, ?_, fun t ht => ?_⟩
        · cases hd : o.dst <;> simp [Act.put, hag.size]
        · cases hd : o.dst <;> simp [Act.put, hag.defers]
        · have hil : i < listed.size := by omega
          by_cases hdt : o.dst = some t
          · have hlt := hpu t hdt
            rw [hdt]
            simp only [Act.put]
            rw [Array.getElem?_setIfInBounds, if_pos rfl]
            split
            · rename_i hs
              exact (hlt (by rw [← hag.size]; exact hs)).symm
            · rename_i hs
              exact (Array.getElem?_eq_none (by rw [← hag.size]; omega)).symm
          · have e1 : (a.put o.dst u).tmps[t]? = a.tmps[t]? := by
              cases hd : o.dst with
              | none => rfl
              | some d =>
                simp only [Act.put]
                rw [Array.getElem?_setIfInBounds, if_neg (fun e => hdt (by rw [hd, e]))]
            rw [e1]
            refine hag.at_ t fun j oj hoj hlj => ?_
            by_cases hji : i = j
            · subst hji
              rw [ho] at hoj
              injection hoj with hoj
              subst hoj
              exact hdt
            · exact ht j oj hoj (by rw [getD_set_ne true hji]; exact hlj)
    unfold wpOp
    simp only [ho]
    have hs := hstep i o ho
    rw [← hw] at hs
    cases hwv : Region.wanted o (yielded ops a.tmps) with
    | true =>
      rw [if_pos rfl]
      refine .inl ?_
      have h4 := hs.1 hwv w hS
      unfold Oper.wp at *
      rw [hev]
      exact upon_transfer hnext hag.defers h4
    | false =>
      rw [if_neg (by decide)]
      exact hnext _ _ (hs.2 hwv) hS

/-- The walk: operation k and those behind it, from the frame a on. -/
def Wk (P : Program) (ops : Array Oper) (Q : Exit → Act → World → Prop) (S : World → Prop) : Nat → Nat → Act → Prop
  | 0, _, a => ∀ w, S w → Q .normal a w
  | m + 1, k, a => ∃ (v : Value) (o : Oper), ops[k]? = some o ∧
      ((Region.wanted o (yielded ops a.tmps) = true ∧ ∀ w, S w → o.wp P a w (fun a' w' => a' = a.put o.dst v ∧ S w') noOut) ∨ (Region.wanted o (yielded ops a.tmps) = false ∧ v = undef)) ∧
      Wk P ops Q S m (k + 1) (a.put o.dst v)
theorem Wk.step {m k : Nat} {a : Act} {v : Value} {o : Oper} (ho : ops[k]? = some o) (hw : Region.wanted o (yielded ops a.tmps) = true)
    (hv : ∀ w, S w → (execOp a.eval o).run P w = .ok (.value v) w) (h : Wk P ops Q S m (k + 1) (a.put o.dst v)) : Wk P ops Q S (m + 1) k a :=
  ⟨v, o, ho, .inl ⟨hw, fun w hS => by unfold Oper.wp; rw [hv w hS]; exact ⟨rfl, hS⟩⟩, h⟩
theorem Wk.skip {m k : Nat} {a : Act} {o : Oper} (ho : ops[k]? = some o) (hw : Region.wanted o (yielded ops a.tmps) = false)
    (h : Wk P ops Q S m (k + 1) (a.put o.dst undef)) : Wk P ops Q S (m + 1) k a := ⟨undef, o, ho, .inr ⟨hw, rfl⟩, h⟩
/-- A call: its arguments, and what it is known to return. -/
theorem Wk.call {m k : Nat} {a : Act} {v : Value} {o : Oper} (f : FuncId) (args : Array Value) (ho : ops[k]? = some o) (hw : Region.wanted o (yielded ops a.tmps) = true)
    (he : ∀ w, S w → (execOp a.eval o).run P w = .ok (.enter f args) w) (hc : ∀ w, S w → Calls P f args w fun e w' => e = .returned v ∧ S w')
    (h : Wk P ops Q S m (k + 1) (a.put o.dst v)) : Wk P ops Q S (m + 1) k a :=
  ⟨v, o, ho, .inl ⟨hw, fun w hS => by
    unfold Oper.wp
    rw [he w hS]
    refine Calls.mono (hc w hS) ?_
    rintro e w' ⟨rfl, hS'⟩
    exact ⟨rfl, hS'⟩⟩, h⟩
theorem Wk.done {k : Nat} {a : Act} (h : ∀ w, S w → Q .normal a w) : Wk P ops Q S 0 k a := h

theorem wk_out (hok : regOk ops = true) : ∀ (m k : Nat) (a : Act), m + k = ops.size → Wk P ops Q S m k a →
    ∃ aF, (∀ i, k ≤ i → StepV P ops S aF i) ∧ (∀ w, S w → Q .normal aF w) ∧ aF.tmps.size = a.tmps.size ∧ aF.defers = a.defers ∧
      ∀ t, (∀ i o, k ≤ i → ops[i]? = some o → o.dst ≠ some t) → aF.tmps[t]? = a.tmps[t]?
  | 0, k, a, hk, h => ⟨a, fun i hi o ho => by have := (Array.getElem?_eq_some_iff.1 ho).1; omega, h, rfl, rfl, fun _ _ => rfl⟩
  | m + 1, k, a, hk, ⟨v, o, ho, hstep, h⟩ => by
    obtain ⟨aF, h1, h2, h3, h4, h5⟩ := wk_out hok m (k + 1) _ (by omega) h
    obtain ⟨q1, q2, q3⟩ := regOk_at hok ho
    have hd : (a.put o.dst v).defers = a.defers := by cases o.dst <;> rfl
    have hsz : (a.put o.dst v).tmps.size = a.tmps.size := by cases o.dst <;> simp [Act.put]
    have hsF : aF.tmps.size = a.tmps.size := h3.trans hsz
    have hlate : ∀ t, t ∈ o.looksAt ops → aF.tmps[t]? = a.tmps[t]? := by
      intro t ht
      have e1 : (a.put o.dst v).tmps[t]? = a.tmps[t]? := by
        cases hdst : o.dst with
        | none => rfl
        | some d =>
          simp only [Act.put]
          rw [Array.getElem?_setIfInBounds, if_neg (by rintro rfl; exact q2 _ hdst ht)]
      rw [← e1]
      refine h5 t fun i oi hi hoi hdi => ?_
      obtain ⟨e, he, hb, heq⟩ := (q3 i oi t (by omega) hoi hdi).2 ht
      have := q1 e he hb
      omega
    have hdstF : ∀ d, o.dst = some d → d < aF.tmps.size → aF.tmps[d]? = some v := by
      intro d hdd hlt
      rw [h5 d fun i oi hi hoi hdi => (q3 i oi d (by omega) hoi hdi).1 hdd, hdd]
      have hlt2 : d < a.tmps.size := hsF ▸ hlt
      simp [Act.put, hlt2]
    refine ⟨aF, fun i hi => ?_, h2, h3.trans hsz, h4.trans hd, fun t ht => ?_⟩
    · by_cases hik : i = k
      · subst hik
        intro o' ho'
        rw [ho] at ho'
        injection ho' with ho'
        subst ho'
        have hev : execOp aF.eval o = execOp a.eval o := execOp_congr o (Region.noSelect_spec (regOk_sel hok) i o · · ho) fun x hx => by
          cases x with
          | tmp t =>
            have := hlate t (List.mem_append_left _ (List.mem_filterMap.2 ⟨.tmp t, by simpa using hx, rfl⟩))
            simp only [Act.eval, Array.getD_eq_getD_getElem?, this]
          | _ => rfl
        have hw : Region.wanted o (yielded ops aF.tmps) = Region.wanted o (yielded ops a.tmps) := by
          unfold Region.wanted
          cases hg : o.guard with
          | none => rfl
          | some gw =>
            obtain ⟨g, want⟩ := gw
            have hy : yielded ops aF.tmps g = yielded ops a.tmps g := by
              unfold yielded
              cases ht : (ops[g]?).bind (·.dst) with
              | none => rfl
              | some t =>
                have := hlate t (List.mem_append_right _ (by simp [hg, ht]))
                simp only [Option.bind_some, this]
            simp only [hy]
        rw [hw]
        rcases hstep with ⟨hw1, hwp⟩ | ⟨hw1, rfl⟩
        · refine ⟨fun _ w hS => ?_, fun hf => by rw [hw1] at hf; cases hf⟩
          have h6 := hwp w hS
          unfold Oper.wp at *
          rw [hev]
          have hput : ∀ u, a.put o.dst u = a.put o.dst v → aF.put o.dst u = aF := fun u hu => put_eq_iff.2 fun d hdd hlt => by
            rw [hdstF d hdd hlt]
            rw [hdd] at hu
            have h7 : (a.put (some d) u).tmps[d]? = (a.put (some d) v).tmps[d]? := by rw [hu]
            have hlt2 : d < a.tmps.size := hsF ▸ hlt
            simp [Act.put, hlt2] at h7
            rw [h7]
          revert h6
          generalize (execOp a.eval o).run P w = r
          intro h6
          cases r with
          | ok n w' =>
            cases n with
            | value u => exact ⟨hput _ h6.1, h6.2⟩
            | skip => exact ⟨hput _ h6.1, h6.2⟩
            | defer d =>
              have h7 : ({ a with defers := d :: a.defers }.put o.dst undef) = a.put o.dst v := h6.1
              have h8 : (({ a with defers := d :: a.defers } : Act).put o.dst undef).defers = d :: a.defers := by cases o.dst <;> rfl
              rw [h7, hd] at h8
              have := congrArg List.length h8
              simp at this
            | enter f args =>
              refine Calls.mono (show Calls P f args w' _ from h6) fun e w'' he => ?_
              cases e with
              | returned u => exact ⟨hput _ he.1, he.2⟩
              | panicked c => exact he
              | outgrown => exact he
            | row row args => exact Rows.mono (show Rows P row args w' _ from h6) fun u w'' he => ⟨hput _ he.1, he.2⟩
            | _ => exact h6
          | halt x w' => cases x <;> exact h6
        · refine ⟨fun hf => (by rw [hw1] at hf; cases hf), fun _ => put_eq_iff.2 hdstF⟩
      · exact h1 i (by omega)
    · have e1 : (a.put o.dst v).tmps[t]? = a.tmps[t]? := by
        cases hdst : o.dst with
        | none => rfl
        | some d =>
          simp only [Act.put]
          rw [Array.getElem?_setIfInBounds, if_neg (fun e => ht k o (Nat.le_refl _) ho (by rw [hdst, e]))]
      rw [← e1]
      exact h5 t fun i oi hi => ht i oi (by omega)

/-- The beginning: a region that asks the tape, walked in the order of its text. -/
theorem wp_region_wk {id : Nat} {a : Act} {w : World} {Q : Exit → Act → World → Prop} (S : World → Prop) (hm : P.follows .mixedOrders = true) (hok : regOk ops = true) (hS : S w.drew)
    (h : Wk P ops Q S ops.size 0 a) : (Code.region id ops true).wp P Q a w := by
  obtain ⟨aF, h1, h2, h3, h4, h5⟩ := wk_out hok ops.size 0 a rfl h
  refine wp_region_any hm (wpAny_vals hok (fun i => h1 i (Nat.zero_le _)) h2 ops.size _ a _ (by simp) ?_ ⟨h3.symm, h4, fun t ht => (h5 t fun i o _ ho => ht i o ho ?_).symm⟩ hS)
  · exact Nat.le_trans List.countP_le_length (by simp)
  · have := (Array.getElem?_eq_some_iff.1 ho).1
    simp [Array.getD, this]
end
end Go.Proofs.Ytdlafigjkefllaa
namespace Go.Proofs.Ytdlafigjkefllaa
open Go
set_option linter.unusedVariables false

/-- Operation i waits for operation j, at once or by others. -/
def waits (ops : Array Oper) : Nat → Nat → Nat → Bool
  | 0, _, _ => false
  | n + 1, i, j => match ops[i]? with
    | none => false
    | some o => o.after.any fun e => Region.binds .any e && (e.on == j || waits ops n e.on j)
/-- From the one behind k on each operation waits for the one ahead of it. -/
def chainOk (ops : Array Oper) (k : Nat) : Bool :=
  (List.range ops.size).all fun i => decide (i ≤ k) || match ops[i]? with
    | none => true
    | some o => o.after.any fun e => Region.binds .any e && e.on == i - 1

/-- As regOk; and a late operation may write what an early one looks at, if it waits for it. -/
def regOkT (ops : Array Oper) (k0 : Nat) : Bool :=
  Region.noSelect ops && (List.range ops.size).all fun i => match ops[i]? with
    | none => true
    | some o => (o.after.all fun e => !Region.binds .any e || decide (e.on < i)) && (match o.dst with | none => true | some d => !(o.looksAt ops).contains d) &&
        (List.range ops.size).all fun j => j == i || match ops[j]? with
          | none => true
          | some o' => match o'.dst with
            | none => true
            | some d => (o.dst != some d) && (!(o.looksAt ops).contains d || (o.after.any fun e => Region.binds .any e && e.on == j) || (decide (i < k0) && (decide (k0 ≤ j) && waits ops ops.size j i)))

section
variable {P : Program} {ops : Array Oper} {Q : Exit → Act → World → Prop} {S : World → Prop}

theorem regOkT_sel {k0 : Nat} (h : regOkT ops k0 = true) : Region.noSelect ops = true := by
  unfold regOkT at h
  simp only [Bool.and_eq_true] at h
  exact h.1
theorem regOkT_at {k0 : Nat} (h : regOkT ops k0 = true) {i : Nat} {o : Oper} (hi : ops[i]? = some o) :
    (∀ e ∈ o.after, Region.binds .any e = true → e.on < i) ∧ (∀ d, o.dst = some d → d ∉ o.looksAt ops) ∧
    ∀ j o' d, j ≠ i → ops[j]? = some o' → o'.dst = some d → o.dst ≠ some d ∧ (d ∈ o.looksAt ops → (∃ e ∈ o.after, Region.binds .any e = true ∧ e.on = j) ∨ (i < k0 ∧ k0 ≤ j ∧ waits ops ops.size j i = true)) := by
  unfold regOkT at h
  simp only [Bool.and_eq_true, List.all_eq_true, List.mem_range] at h
  have hlt := (Array.getElem?_eq_some_iff.1 hi).1
  have h1 := h.2 i hlt
  simp only [hi, Bool.and_eq_true] at h1
  obtain ⟨⟨ha, hb⟩, hc⟩ := h1
  refine ⟨fun e he hb => ?_, fun d hd => ?_, fun j o' d hj ho' hd => ?_⟩
  · have := Array.all_eq_true_iff_forall_mem.1 ha e he
    simpa [hb] using this
  · simp only [hd] at hb
    simpa using hb
  · simp only [List.all_eq_true, List.mem_range] at hc
    have h2 := hc j (Array.getElem?_eq_some_iff.1 ho').1
    simp only [ho', hd, Bool.or_eq_true, beq_iff_eq, hj, false_or, Bool.and_eq_true, decide_eq_true_eq] at h2
    refine ⟨by simpa using h2.1, fun hm => ?_⟩
    rcases h2.2 with (h3 | h3) | h3
    · simp at h3
      exact absurd hm h3
    · obtain ⟨e, he, hb⟩ := Array.any_eq_true'.1 h3
      simp only [Bool.and_eq_true, beq_iff_eq] at hb
      exact .inl ⟨e, he, hb.1, hb.2⟩
    · exact .inr h3

theorem chainOk_at {k : Nat} (h : chainOk ops k = true) {i : Nat} {o : Oper} (hi : ops[i]? = some o) (hk : k < i) : ∃ e ∈ o.after, Region.binds .any e = true ∧ e.on = i - 1 := by
  unfold chainOk at h
  simp only [List.all_eq_true, List.mem_range, Bool.or_eq_true, decide_eq_true_eq] at h
  have h1 := h i (Array.getElem?_eq_some_iff.1 hi).1
  simp only [hi] at h1
  rcases h1 with h1 | h1
  · omega
  · obtain ⟨e, he, hb⟩ := Array.any_eq_true'.1 h1
    simp only [Bool.and_eq_true, beq_iff_eq] at hb
    exact ⟨e, he, hb.1, hb.2⟩

/-- What a set of operations that have come up is closed under. -/
def Shut (ops : Array Oper) (listed : Array Bool) : Prop := ∀ i o, ops[i]? = some o → listed.getD i false = true → ∀ e ∈ o.after, Region.binds .any e = true → listed.getD e.on false = true
theorem waits_listed {listed : Array Bool} (hs : Shut ops listed) : ∀ (n i j : Nat), waits ops n i j = true → (∀ o, ops[i]? = some o → ∀ e ∈ o.after, Region.binds .any e = true → listed.getD e.on false = true) → listed.getD j false = true
  | 0, _, _, h, _ => by simp [waits] at h
  | n + 1, i, j, h, hd => by
    unfold waits at h
    split at h
    · cases h
    · rename_i o ho
      obtain ⟨e, he, hb⟩ := Array.any_eq_true'.1 h
      simp only [Bool.and_eq_true, Bool.or_eq_true, beq_iff_eq] at hb
      have hl := hd o ho e he hb.1
      rcases hb.2 with h2 | h2
      · rw [← h2]; exact hl
      · exact waits_listed hs n e.on j h2 fun o' ho' => hs _ o' ho' hl

/-- The post, but False at a panic. -/
def noPan (Q : Exit → Act → World → Prop) : Exit → Act → World → Prop
  | .panic _, _, _ => False
  | e, a, w => Q e a w
theorem letsOut_noPan (h : LetsOut (noPan Q)) : LetsOut Q := h

/-- The early walk: operation k and those behind it, m of them; what needs S the first of the late ones must wait for. -/
def WkT (P : Program) (ops : Array Oper) (T : Act → World → Prop) (S : World → Prop) (k0 : Nat) : Nat → Nat → Act → Prop
  | 0, _, a => ∀ w, S w → T a w
  | m + 1, k, a => ∃ (v : Value) (o : Oper), ops[k]? = some o ∧
      ((Region.wanted o (yielded ops a.tmps) = true ∧ ((∀ w, (execOp a.eval o).run P w = .ok (.value v) w) ∨
          (waits ops ops.size k0 k = true ∧ ∀ w, S w → o.wp P a w (fun a' w' => a' = a.put o.dst v ∧ S w') noOut))) ∨
        (Region.wanted o (yielded ops a.tmps) = false ∧ v = undef)) ∧
      WkT P ops T S k0 m (k + 1) (a.put o.dst v)
section
variable {T : Act → World → Prop} {k0 m k : Nat} {a : Act} {v : Value} {o : Oper}
theorem WkT.pure (ho : ops[k]? = some o) (hw : Region.wanted o (yielded ops a.tmps) = true)
    (hv : ∀ w, (execOp a.eval o).run P w = .ok (.value v) w) (h : WkT P ops T S k0 m (k + 1) (a.put o.dst v)) : WkT P ops T S k0 (m + 1) k a :=
  ⟨v, o, ho, .inl ⟨hw, .inl hv⟩, h⟩
theorem WkT.step (ho : ops[k]? = some o) (hw : Region.wanted o (yielded ops a.tmps) = true) (hk : waits ops ops.size k0 k = true)
    (hv : ∀ w, S w → (execOp a.eval o).run P w = .ok (.value v) w) (h : WkT P ops T S k0 m (k + 1) (a.put o.dst v)) : WkT P ops T S k0 (m + 1) k a :=
  ⟨v, o, ho, .inl ⟨hw, .inr ⟨hk, fun w hS => by unfold Oper.wp; rw [hv w hS]; exact ⟨rfl, hS⟩⟩⟩, h⟩
theorem WkT.skip (ho : ops[k]? = some o) (hw : Region.wanted o (yielded ops a.tmps) = false)
    (h : WkT P ops T S k0 m (k + 1) (a.put o.dst undef)) : WkT P ops T S k0 (m + 1) k a := ⟨undef, o, ho, .inr ⟨hw, rfl⟩, h⟩
theorem WkT.call (f : FuncId) (args : Array Value) (ho : ops[k]? = some o) (hw : Region.wanted o (yielded ops a.tmps) = true) (hk : waits ops ops.size k0 k = true)
    (he : ∀ w, S w → (execOp a.eval o).run P w = .ok (.enter f args) w) (hc : ∀ w, S w → Calls P f args w fun e w' => e = .returned v ∧ S w')
    (h : WkT P ops T S k0 m (k + 1) (a.put o.dst v)) : WkT P ops T S k0 (m + 1) k a :=
  ⟨v, o, ho, .inl ⟨hw, .inr ⟨hk, fun w hS => by
    unfold Oper.wp
    rw [he w hS]
    refine Calls.mono (hc w hS) ?_
    rintro e w' ⟨rfl, hS'⟩
    exact ⟨rfl, hS'⟩⟩⟩, h⟩
theorem WkT.done (h : ∀ w, S w → T a w) : WkT P ops T S k0 0 k a := h
end

/-- The early operation leaves the frame as it is: its value stands there already. -/
def StepT (P : Program) (ops : Array Oper) (S : World → Prop) (aF : Act) (k0 i : Nat) : Prop :=
  ∀ o, ops[i]? = some o → ∃ v, (∀ d, o.dst = some d → d < aF.tmps.size → aF.tmps[d]? = some v) ∧
    ((Region.wanted o (yielded ops aF.tmps) = true ∧ ((∀ w, (execOp aF.eval o).run P w = .ok (.value v) w) ∨ (waits ops ops.size k0 i = true ∧ ∀ w, S w → o.wp P aF w (fun a' w' => a' = aF ∧ S w') noOut))) ∨
      (Region.wanted o (yielded ops aF.tmps) = false ∧ v = undef))

/-- What an operation computes from, in two frames that agree where it looks. -/
theorem same_exec {k0 : Nat} (hok : regOkT ops k0 = true) {i : Nat} {o : Oper} (ho : ops[i]? = some o) {a b : Act} (h : ∀ t ∈ o.looksAt ops, a.tmps[t]? = b.tmps[t]?) :
    execOp a.eval o = execOp b.eval o ∧ Region.wanted o (yielded ops a.tmps) = Region.wanted o (yielded ops b.tmps) := by
  constructor
  · refine execOp_congr o (Region.noSelect_spec (regOkT_sel hok) i o · · ho) fun x hx => ?_
    cases x with
    | tmp t =>
      have := h t (List.mem_append_left _ (List.mem_filterMap.2 ⟨.tmp t, by simpa using hx, rfl⟩))
      simp only [Act.eval, Array.getD_eq_getD_getElem?, this]
    | _ => rfl
  · unfold Region.wanted
    cases hg : o.guard with
    | none => rfl
    | some gw =>
      obtain ⟨g, want⟩ := gw
      have hy : yielded ops a.tmps g = yielded ops b.tmps g := by
        unfold yielded
        cases ht : (ops[g]?).bind (·.dst) with
        | none => rfl
        | some t =>
          have := h t (List.mem_append_right _ (by simp [hg, ht]))
          simp only [Option.bind_some, this]
      simp only [hy]
theorem put_other {a : Act} {dst : Option Tmp} {v : Value} {t : Tmp} (h : dst ≠ some t) : (a.put dst v).tmps[t]? = a.tmps[t]? := by
  cases dst with
  | none => rfl
  | some d =>
    simp only [Act.put]
    rw [Array.getElem?_setIfInBounds, if_neg (by rintro rfl; exact h rfl)]
theorem put_size {a : Act} {dst : Option Tmp} {v : Value} : (a.put dst v).tmps.size = a.tmps.size := by cases dst <;> simp [Act.put]
theorem put_defers {a : Act} {dst : Option Tmp} {v : Value} : (a.put dst v).defers = a.defers := by cases dst <;> rfl

theorem wkt_out {k0 : Nat} (hok : regOkT ops k0 = true) {T : Act → World → Prop} : ∀ (m k : Nat) (a : Act), k + m ≤ k0 → WkT P ops T S k0 m k a →
    ∃ aF, (∀ i, k ≤ i → i < k + m → StepT P ops S aF k0 i) ∧ (∀ w, S w → T aF w) ∧ aF.tmps.size = a.tmps.size ∧ aF.defers = a.defers ∧
      ∀ t, (∀ i o, k ≤ i → i < k + m → ops[i]? = some o → o.dst ≠ some t) → aF.tmps[t]? = a.tmps[t]?
  | 0, k, a, _, h => ⟨a, fun i hi hj => by omega, h, rfl, rfl, fun _ _ => rfl⟩
  | m + 1, k, a, hkm, ⟨v, o, ho, hstep, h⟩ => by
    obtain ⟨aF, h1, h2, h3, h4, h5⟩ := wkt_out hok m (k + 1) _ (by omega) h
    obtain ⟨q1, q2, q3⟩ := regOkT_at hok ho
    rw [put_defers] at h4
    rw [put_size] at h3
    have hlate : ∀ t, t ∈ o.looksAt ops → aF.tmps[t]? = a.tmps[t]? := by
      intro t ht
      rw [← put_other (a := a) (dst := o.dst) (v := v) (t := t) (fun e => q2 _ e ht)]
      refine h5 t fun i oi hi hj hoi hdi => ?_
      rcases (q3 i oi t (by omega) hoi hdi).2 ht with ⟨e, he, hb, heq⟩ | ⟨_, h6, _⟩
      · have := q1 e he hb
        omega
      · omega
    have hdstF : ∀ d, o.dst = some d → d < aF.tmps.size → aF.tmps[d]? = some v := by
      intro d hdd hlt
      rw [h5 d fun i oi hi hj hoi hdi => (q3 i oi d (by omega) hoi hdi).1 hdd, hdd]
      have hlt2 : d < a.tmps.size := h3 ▸ hlt
      simp [Act.put, hlt2]
    refine ⟨aF, fun i hi hj => ?_, h2, h3, h4, fun t ht => ?_⟩
    · by_cases hik : i = k
      · subst hik
        intro o' ho'
        rw [ho] at ho'
        injection ho' with ho'
        subst ho'
        obtain ⟨hev, hw⟩ := same_exec hok ho hlate
        refine ⟨v, hdstF, ?_⟩
        rw [hw, hev]
        refine hstep.imp (fun ⟨hw1, hs⟩ => ⟨hw1, hs.imp id fun ⟨hk, hwp⟩ => ⟨hk, fun w hS => ?_⟩⟩) id
        have h6 := hwp w hS
        unfold Oper.wp at *
        rw [hev]
        have hput : ∀ u, a.put o.dst u = a.put o.dst v → aF.put o.dst u = aF := fun u hu => put_eq_iff.2 fun d hdd hlt => by
          rw [hdstF d hdd hlt]
          rw [hdd] at hu
          have h7 : (a.put (some d) u).tmps[d]? = (a.put (some d) v).tmps[d]? := by rw [hu]
          have hlt2 : d < a.tmps.size := h3 ▸ hlt
          simp [Act.put, hlt2] at h7
          rw [h7]
        revert h6
        generalize (execOp a.eval o).run P w = r
        intro h6
        cases r with
        | ok n w' =>
          cases n with
          | value u => exact ⟨hput _ h6.1, h6.2⟩
          | skip => exact ⟨hput _ h6.1, h6.2⟩
          | defer d =>
            have h7 : ({ a with defers := d :: a.defers }.put o.dst undef) = a.put o.dst v := h6.1
            have h8 : (({ a with defers := d :: a.defers } : Act).put o.dst undef).defers = d :: a.defers := by cases o.dst <;> rfl
            rw [h7, put_defers] at h8
            have := congrArg List.length h8
            simp at this
          | enter f args =>
            refine Calls.mono (show Calls P f args w' _ from h6) fun e w'' he => ?_
            cases e with
            | returned u => exact ⟨hput _ he.1, he.2⟩
            | panicked c => exact he
            | outgrown => exact he
          | row row args => exact Rows.mono (show Rows P row args w' _ from h6) fun u w'' he => ⟨hput _ he.1, he.2⟩
          | _ => exact h6
        | halt x w' => cases x <;> exact h6
      · exact h1 i (by omega) (by omega)
    · rw [← put_other (a := a) (dst := o.dst) (v := v) (t := t) (ht k o (Nat.le_refl _) (by omega) ho)]
      exact h5 t fun i oi hi hj => ht i oi (by omega) (by omega)

/-- The frame a is as aE, but for what the early operations that have not come up will write. -/
structure AgreesT (ops : Array Oper) (k0 : Nat) (listed : Array Bool) (aE a : Act) : Prop where
  size : a.tmps.size = aE.tmps.size
  defers : aE.defers = a.defers
  at_ : ∀ t, (∀ i o, i < k0 → ops[i]? = some o → listed.getD i true = false → o.dst ≠ some t) → a.tmps[t]? = aE.tmps[t]?

theorem upon_two {o : Oper} {a aE : Act} {r : Result Next} {K K' : Act → World → Prop} (hd : aE.defers = a.defers)
    (hK : ∀ ds u w', K' ({ aE with defers := ds }.put o.dst u) w' → K ({ a with defers := ds }.put o.dst u) w')
    (h : o.upon P aE K' (noPan Q) r) : o.upon P a K Q r := by
  obtain ⟨t1, d1⟩ := a
  obtain ⟨t2, d2⟩ := aE
  have hd' : d2 = d1 := hd
  subst hd'
  have hA : ∀ u w', K' (Act.put ⟨t2, d2⟩ o.dst u) w' → K (Act.put ⟨t1, d2⟩ o.dst u) w' := fun u w' hk => hK d2 u w' hk
  cases r with
  | ok n w' =>
    cases n with
    | value u => exact hA _ _ h
    | skip => exact hA _ _ h
    | defer d =>
      exact hK (d :: d2) undef w' h
    | enter f args =>
      refine Calls.mono (show Calls P f args w' _ from h) fun e w'' he => ?_
      cases e with
      | returned v => exact hA _ _ he
      | panicked c => exact (he : False).elim
      | outgrown => exact letsOut_noPan he
    | row row args => exact Rows.mono (show Rows P row args w' _ from h) fun v w'' he => hA _ _ he
    | _ => exact (h : False).elim
  | halt x w' => cases x <;> first | exact (h : False).elim | exact h
/-- How far a run of the region has come. -/
def Phase (P : Program) (ops : Array Oper) (Q : Exit → Act → World → Prop) (S : World → Prop) (k0 : Nat) (aF : Act) (listed : Array Bool) (aE : Act) (w : World) : Prop :=
  (aE = aF ∧ S w ∧ ∀ i, k0 ≤ i → i < ops.size → listed.getD i true = false) ∨
  (∃ j, k0 + j ≤ ops.size ∧ (∀ i, k0 ≤ i → i < ops.size → (listed.getD i true = true ↔ i < k0 + j)) ∧ (∀ i, i < k0 → waits ops ops.size k0 i = true → listed.getD i true = true) ∧
    (∀ t, (∀ i o, k0 ≤ i → ops[i]? = some o → listed.getD i true = true → o.dst ≠ some t) → aE.tmps[t]? = aF.tmps[t]?) ∧ aE.tmps.size = aF.tmps.size ∧ wpList P ops (noPan Q) (ops.toList.drop (k0 + j)) aE w)

theorem getD_tf {listed : Array Bool} {i : Nat} (h : i < listed.size) : listed.getD i false = listed.getD i true := by simp [Array.getD, h]

theorem all_listed {k0 : Nat} (hok : regOkT ops k0 = true) {listed : Array Bool} (hsz : listed.size = ops.size) (hr : Region.ready .any ops listed = []) : ∀ n, ∀ i, i < n → ∀ o, ops[i]? = some o → listed.getD i true = true := by
  intro n
  induction n with
  | zero => intro i hi; omega
  | succ n ih =>
    intro i hi o ho
    cases hl : listed.getD i true with
    | true => rfl
    | false =>
      have : i ∈ Region.ready .any ops listed := mem_ready.2 ⟨hl, o, ho, fun e he hb => by
        have hlt := (regOkT_at hok ho).1 e he hb
        have hio := (Array.getElem?_eq_some_iff.1 ho).1
        obtain ⟨oe, hoe⟩ : ∃ oe, ops[e.on]? = some oe := ⟨_, Array.getElem?_eq_getElem (by omega)⟩
        rw [getD_tf (by omega)]
        exact ih e.on (by omega) oe hoe⟩
      rw [hr] at this
      cases this

theorem wpAny_t {k0 : Nat} (hok : regOkT ops k0 = true) (hch : chainOk ops k0 = true) (hk0 : k0 ≤ ops.size) {aF : Act} (hE : ∀ i, i < k0 → StepT P ops S aF k0 i)
    (hT : ∀ w, S w → wpList P ops (noPan Q) (ops.toList.drop k0) aF w) :
    ∀ (fuel : Nat) (listed : Array Bool) (a aE : Act) (w : World), listed.size = ops.size → (List.range ops.size).countP (fun i => !listed.getD i true) ≤ fuel →
      Shut ops listed → AgreesT ops k0 listed aE a → Phase P ops Q S k0 aF listed aE w → wpAny P .any ops Q fuel listed a w := by
  have key : ∀ (listed : Array Bool) (a aE : Act) (w : World), listed.size = ops.size → AgreesT ops k0 listed aE a → Phase P ops Q S k0 aF listed aE w → Region.ready .any ops listed = [] → Q .normal a w := by
    intro listed a aE w hsz hag hph hr
    have hall := all_listed hok hsz hr
    have hae : a = aE := by
      obtain ⟨t1, d1⟩ := a
      obtain ⟨t2, d2⟩ := aE
      have h2 : d2 = d1 := hag.defers
      subst h2
      congr
      refine Array.ext_getElem? fun t => ?_
      exact hag.at_ t fun i o _ ho hl => by rw [hall (i + 1) i (by omega) o ho] at hl; cases hl
    subst hae
    rcases hph with ⟨rfl, hS, hno⟩ | ⟨j, hj, hlate, _, _, _, hwp⟩
    · have hk : k0 = ops.size := by
        rcases Nat.lt_or_ge k0 ops.size with h | h
        · have h1 := hno k0 (Nat.le_refl _) h
          rw [hall (k0 + 1) k0 (by omega) _ (Array.getElem?_eq_getElem h)] at h1
          cases h1
        · omega
      have := hT w hS
      rw [List.drop_eq_nil_of_le (by simp; omega)] at this
      exact this
    · have hk : k0 + j = ops.size := by
        rcases Nat.lt_or_ge (k0 + j) ops.size with h | h
        · have h1 := (hlate (k0 + j) (by omega) h).1 (hall (k0 + j + 1) (k0 + j) (by omega) _ (Array.getElem?_eq_getElem h))
          omega
        · omega
      rw [List.drop_eq_nil_of_le (by simp; omega)] at hwp
      exact hwp
  intro fuel
  induction fuel with
  | zero =>
    intro listed a aE w hsz hc hsh hag hph
    have hr : Region.ready .any ops listed = [] := by
      rw [List.eq_nil_iff_forall_not_mem]
      intro i hi
      obtain ⟨hl, o, ho, _⟩ := mem_ready.1 hi
      have h0 : (List.range ops.size).countP (fun i => !listed.getD i true) = 0 := by omega
      rw [List.countP_eq_zero] at h0
      have := h0 i (List.mem_range.2 (Array.getElem?_eq_some_iff.1 ho).1)
      simp [hl] at this
    exact ⟨hr, key listed a aE w hsz hag hph hr⟩
  | succ fuel ih =>
    intro listed a aE w hsz hc hsh hag hph
    refine ⟨key listed a aE w hsz hag hph, fun i hi => ?_⟩
    obtain ⟨hl, o, ho, hdone⟩ := mem_ready.1 hi
    have hio := (Array.getElem?_eq_some_iff.1 ho).1
    have hil : i < listed.size := by omega
    obtain ⟨q1, q2, q3⟩ := regOkT_at hok ho
    -- what does not hang on which kind of operation came up
    have hset : ∀ j, j ≠ i → (listed.setIfInBounds i true).getD j true = listed.getD j true := fun j hj => getD_set_ne true (Ne.symm hj)
    have hseti : (listed.setIfInBounds i true).getD i true = true := by simp [Array.getD, hil]
    have hsz' : (listed.setIfInBounds i true).size = ops.size := by simpa using hsz
    have hc' : (List.range ops.size).countP (fun j => !(listed.setIfInBounds i true).getD j true) ≤ fuel := by
      have := countP_lt (p := fun j => !listed.getD j true) (p' := fun j => !(listed.setIfInBounds i true).getD j true) (i := i)
        (fun j hj => by
          by_cases hji : j = i
          · subst hji; rw [hseti] at hj; cases hj
          · rw [hset j hji] at hj; exact hj) (by simp [hl]) (by simp [Array.getD, hil]) _ (List.mem_range.2 hio)
      omega
    have hsh' : Shut ops (listed.setIfInBounds i true) := by
      intro q oq hoq hlq e he hb
      have hq := (Array.getElem?_eq_some_iff.1 hoq).1
      rw [getD_tf (by omega)] at hlq
      have hmono : listed.getD e.on false = true → (listed.setIfInBounds i true).getD e.on false = true := fun h => getD_set_true h
      by_cases hqi : q = i
      · subst hqi
        rw [ho] at hoq
        injection hoq with hoq
        subst hoq
        exact hmono (hdone e he hb)
      · rw [hset q hqi] at hlq
        exact hmono (hsh q oq hoq (by rw [getD_tf (by omega)]; exact hlq) e he hb)
    have hseen : ∀ t ∈ o.looksAt ops, ∀ q oq, ops[q]? = some oq → oq.dst = some t → (q < i ∧ listed.getD q true = true) ∨ (k0 ≤ q ∧ listed.getD q true = false) := fun t ht q oq hoq hdq => by
      by_cases hqi : q = i
      · subst hqi
        rw [ho] at hoq
        injection hoq with hoq
        subst hoq
        exact absurd ht (q2 t hdq)
      · rcases (q3 q oq t hqi hoq hdq).2 ht with ⟨e, he, hb, heq⟩ | ⟨_, h6, h7⟩
        · have h1 := hdone e he hb
          have h2 := q1 e he hb
          rw [heq] at h1 h2
          rw [getD_tf (by omega)] at h1
          exact .inl ⟨h2, h1⟩
        · refine .inr ⟨h6, ?_⟩
          have hqs := (Array.getElem?_eq_some_iff.1 hoq).1
          cases hlq : listed.getD q true with
          | false => rfl
          | true =>
            have := waits_listed hsh ops.size q i h7 fun o' ho' => hsh q o' ho' (by rw [getD_tf (by omega)]; exact hlq)
            rw [getD_tf (by omega), hl] at this
            cases this
    have hlook : ∀ t ∈ o.looksAt ops, a.tmps[t]? = aE.tmps[t]? := fun t ht => hag.at_ t fun q oq hqk hoq hlq hdq => by
      rcases hseen t ht q oq hoq hdq with ⟨_, h6⟩ | ⟨h6, _⟩
      · rw [h6] at hlq
        cases hlq
      · omega
    unfold wpOp
    simp only [ho]
    by_cases hik : i < k0
    · -- an early one
      obtain ⟨v, hdst, hcase⟩ := hE i hik o ho
      have hEF : ∀ t, (∀ q oq, k0 ≤ q → ops[q]? = some oq → listed.getD q true = true → oq.dst ≠ some t) → aE.tmps[t]? = aF.tmps[t]? := by
        intro t ht
        rcases hph with ⟨rfl, _⟩ | ⟨_, _, _, _, h, _⟩
        · rfl
        · exact h t ht
      have hsE : aE.tmps.size = aF.tmps.size := by
        rcases hph with ⟨rfl, _⟩ | ⟨_, _, _, _, _, h, _⟩
        · rfl
        · exact h
      have hlookF : ∀ t ∈ o.looksAt ops, a.tmps[t]? = aF.tmps[t]? := fun t ht => (hlook t ht).trans (hEF t fun q oq hq hoq hlq hdq => by
        rcases hseen t ht q oq hoq hdq with ⟨h6, _⟩ | ⟨_, h6⟩
        · omega
        · rw [h6] at hlq
          cases hlq)
      obtain ⟨hev, hw⟩ := same_exec hok ho hlookF
      have next : ∀ u w', (∀ d, o.dst = some d → d < aF.tmps.size → aF.tmps[d]? = some u) → Phase P ops Q S k0 aF (listed.setIfInBounds i true) aE w' → wpAny P .any ops Q fuel (listed.setIfInBounds i true) (a.put o.dst u) w' := by
        intro u w' hu hph'
        refine ih _ _ aE _ hsz' hc' hsh' ⟨?_, ?_, fun t ht => ?_⟩ hph'
        · rw [put_size]; exact hag.size
        · rw [put_defers]; exact hag.defers
        · by_cases hdt : o.dst = some t
          · have hlt := hu t hdt
            rw [hEF t fun q oq hq hoq _ hdq => (q3 q oq t (by omega) hoq hdq).1 hdt, hdt]
            simp only [Act.put]
            rw [Array.getElem?_setIfInBounds, if_pos rfl]
            have hs2 := hag.size
            split
            · rename_i hs
              exact (hlt (show t < aF.tmps.size by rw [← hsE, ← hs2]; exact hs)).symm
            · rename_i hs
              exact (Array.getElem?_eq_none (xs := aF.tmps) (show aF.tmps.size ≤ t by rw [← hsE, ← hs2]; exact Nat.le_of_not_lt hs)).symm
          · rw [put_other hdt]
            refine hag.at_ t fun q oq hq hoq hlq => ?_
            by_cases hqi : q = i
            · subst hqi
              rw [ho] at hoq
              injection hoq with hoq
              subst hoq
              exact hdt
            · exact ht q oq hq hoq (by rw [hset q hqi]; exact hlq)
      have hph1 : Phase P ops Q S k0 aF (listed.setIfInBounds i true) aE w := by
        rcases hph with ⟨h1, h2, h3⟩ | ⟨j, hj, h1, h2, h3⟩
        · exact .inl ⟨h1, h2, fun q hq hqs => by rw [hset q (by omega)]; exact h3 q hq hqs⟩
        · exact .inr ⟨j, hj, fun q hq hqs => by rw [hset q (by omega)]; exact h1 q hq hqs, (fun q hq hwq => by
            by_cases hqi : q = i
            · subst hqi; exact hseti
            · rw [hset q hqi]; exact h2 q hq hwq), (fun t ht => h3.1 t fun q oq hq hoq hlq => ht q oq hq hoq (by rw [hset q (by omega)]; exact hlq)), h3.2⟩
      rcases hcase with ⟨hw1, hrun | ⟨hwt, hwp⟩⟩ | ⟨hw1, rfl⟩
      · rw [hw, hw1, if_pos rfl]
        refine .inl ?_
        unfold Oper.wp
        rw [hev, hrun w]
        exact next v w hdst hph1
      · rw [hw, hw1, if_pos rfl]
        refine .inl ?_
        rcases hph with ⟨hEq, hS, h3⟩ | ⟨j, hj, h1, h2, h3⟩
        · have h4 := hwp w hS
          unfold Oper.wp at *
          rw [hev]
          refine upon_transfer (aF := aF) (fun u w' hu hS' => next u w' (put_eq_iff.1 hu) ?_) (by rw [← hEq]; exact hag.defers) h4
          exact .inl ⟨hEq, hS', fun q hq hqs => by rw [hset q (by omega)]; exact h3 q hq hqs⟩
        · rw [h2 i hik hwt] at hl
          cases hl
      · rw [hw, hw1, if_neg (by decide)]
        exact next undef w hdst hph1
    · -- a late one
      have hki : k0 ≤ i := by omega
      have hB : ∃ j, k0 + j = i ∧ (∀ q, k0 ≤ q → q < ops.size → (listed.getD q true = true ↔ q < k0 + j)) ∧ (∀ q, q < k0 → waits ops ops.size k0 q = true → listed.getD q true = true) ∧
          (∀ t, (∀ q oq, k0 ≤ q → ops[q]? = some oq → listed.getD q true = true → oq.dst ≠ some t) → aE.tmps[t]? = aF.tmps[t]?) ∧ aE.tmps.size = aF.tmps.size ∧ wpList P ops (noPan Q) (ops.toList.drop (k0 + j)) aE w := by
        have hprev : k0 < i → listed.getD (i - 1) true = true := fun h => by
          obtain ⟨e, he, hb, heq⟩ := chainOk_at hch ho h
          have := hdone e he hb
          rw [heq, getD_tf (by omega)] at this
          exact this
        rcases hph with ⟨rfl, hS, h3⟩ | ⟨j, hj, h1, h2, h3, h4, h5⟩
        · have hi0 : i = k0 := by
            rcases Nat.lt_or_ge k0 i with h | h
            · have := hprev h
              rw [h3 (i - 1) (by omega) (by omega)] at this
              cases this
            · omega
          subst hi0
          refine ⟨0, rfl, fun q hq hqs => ⟨(fun h => by rw [h3 q hq hqs] at h; cases h), (fun h => by omega)⟩, fun q hq hwq => ?_, fun _ _ => rfl, rfl, hT w hS⟩
          have := waits_listed hsh ops.size i q hwq fun o' ho' => by
            rw [ho] at ho'
            injection ho' with ho'
            subst ho'
            exact hdone
          rwa [getD_tf (by omega)] at this
        · have e1 : ¬ i < k0 + j := fun h => by
            rw [(h1 i hki hio).2 h] at hl
            cases hl
          refine ⟨j, ?_, h1, h2, h3, h4, h5⟩
          rcases Nat.lt_or_ge (k0 + j) i with h | h
          · have := (h1 (i - 1) (by omega) (by omega)).1 (hprev (by omega))
            omega
          · omega
      obtain ⟨j, rfl, h1, h2, h3, h4, h5⟩ := hB
      have hdrop : ops.toList.drop (k0 + j) = o :: ops.toList.drop (k0 + (j + 1)) := by
        have hlt : k0 + j < ops.toList.length := by simpa using hio
        rw [List.drop_eq_getElem_cons hlt]
        have : ops.toList[k0 + j] = o := by
          have := (Array.getElem?_eq_some_iff.1 ho).2
          simpa using this
        rw [this]
        rfl
      rw [hdrop] at h5
      obtain ⟨hev, hw⟩ := same_exec hok ho hlook
      have next : ∀ ds u w', wpList P ops (noPan Q) (ops.toList.drop (k0 + (j + 1))) ({ aE with defers := ds }.put o.dst u) w' → wpAny P .any ops Q fuel (listed.setIfInBounds (k0 + j) true) ({ a with defers := ds }.put o.dst u) w' := by
        intro ds u w' hwl
        refine ih _ _ ({ aE with defers := ds }.put o.dst u) _ hsz' hc' hsh' ⟨?_, ?_, fun t ht => ?_⟩ (.inr ⟨j + 1, by omega, fun q hq hqs => ?_, fun q hq hwq => ?_, fun t ht => ?_, ?_, hwl⟩)
        · rw [put_size, put_size]; exact hag.size
        · rw [put_defers, put_defers]
        · by_cases hdt : o.dst = some t
          · rw [hdt]
            have hs2 := hag.size
            simp only [Act.put]
            rw [Array.getElem?_setIfInBounds, Array.getElem?_setIfInBounds, if_pos rfl, if_pos rfl, hs2]
          · rw [put_other hdt, put_other hdt]
            exact hag.at_ t fun q oq hq hoq hlq => ht q oq hq hoq (by rw [hset q (by omega)]; exact hlq)
        · by_cases hqi : q = k0 + j
          · subst hqi; rw [hseti]; simp
          · rw [hset q hqi, h1 q hq hqs]; omega
        · rw [hset q (by omega)]; exact h2 q hq hwq
        · rw [put_other (ht _ o (by omega) ho hseti)]
          exact h3 t fun q oq hq hoq hlq => ht q oq hq hoq (by
            by_cases hqi : q = k0 + j
            · subst hqi; exact hseti
            · rw [hset q hqi]; exact hlq)
        · rw [put_size]; exact h4
      unfold wpList at h5
      rw [hw]
      split at h5
      · rename_i hwv
        rw [if_pos hwv]
        rcases h5 with h5 | ⟨hasks, hlets⟩
        · refine .inl ?_
          unfold Oper.wp at *
          rw [hev]
          exact upon_two hag.defers next h5
        · refine .inr ⟨?_, letsOut_noPan hlets⟩
          unfold Oper.asks at *
          rw [hev]
          exact hasks
      · rename_i hwv
        rw [if_neg hwv]
        have := next a.defers undef w
        have hd := hag.defers
        obtain ⟨t1, d1⟩ := a
        obtain ⟨t2, d2⟩ := aE
        have hd' : d2 = d1 := hd
        subst hd'
        exact this h5

/-- The beginning: k0 early operations, then the late ones in their order. -/
theorem wp_region_wkt {id : Nat} {a : Act} {w : World} {Q : Exit → Act → World → Prop} (S : World → Prop) (k0 : Nat) (hm : P.follows .mixedOrders = true) (hok : regOkT ops k0 = true) (hch : chainOk ops k0 = true) (hk0 : k0 ≤ ops.size) (hS : S w.drew)
    (h : WkT P ops (wpList P ops (noPan Q) (ops.toList.drop k0)) S k0 k0 0 a) : (Code.region id ops true).wp P Q a w := by
  obtain ⟨aF, h1, h2, h3, h4, h5⟩ := wkt_out hok k0 0 a (by omega) h
  refine wp_region_any hm (wpAny_t hok hch hk0 (fun i hi => h1 i (Nat.zero_le _) (by omega)) h2 ops.size _ a aF _ (by simp) ?_ ?_ ⟨h3.symm, h4, fun t ht => (h5 t fun i o _ hi ho => ht i o (by omega) ho ?_).symm⟩ (.inl ⟨rfl, hS, fun i _ hi => ?_⟩))
  · exact Nat.le_trans List.countP_le_length (by simp)
  · intro i o ho hl
    simp [Array.getD] at hl
  · have := (Array.getElem?_eq_some_iff.1 ho).1
    simp [Array.getD, this]
  · simp [Array.getD, hi]
end
end Go.Proofs.Ytdlafigjkefllaa
namespace Go.Proofs.Ytdlafigjkefllaa
open Go
set_option linter.unusedVariables false
section
variable {P : Program} {ops : Array Oper} {Q : Exit → Act → World → Prop} {S : World → Prop}
/-- The soft late operations, n of them, up to k1; behind them the list. -/
def wpSoft (P : Program) (ops : Array Oper) (Q : Exit → Act → World → Prop) (S : World → Prop) (k1 : Nat) : Nat → Act → World → Prop
  | 0, a, w => wpList P ops (noPan Q) (ops.toList.drop k1) a w
  | n + 1, a, w => ∃ o, ops[k1 - (n + 1)]? = some o ∧ Region.wanted o (yielded ops a.tmps) = true ∧ o.wp P a w (fun a' w' => a'.defers = a.defers ∧ S w' ∧ ∀ w'', Mk0 w' w'' → S w'' → wpSoft P ops Q S k1 n a' w'') (noPan Q)
theorem wpSoft.call {k1 n : Nat} {a : Act} {w : World} {o : Oper} (f : FuncId) (args : Array Value) (ho : ops[k1 - (n + 1)]? = some o) (hw : Region.wanted o (yielded ops a.tmps) = true)
    (he : (execOp a.eval o).run P w = .ok (.enter f args) w) (hc : Calls P f args w fun e w' => ∃ v, e = .returned v ∧ S w' ∧ ∀ w'', Mk0 w' w'' → S w'' → wpSoft P ops Q S k1 n (a.put o.dst v) w'') : wpSoft P ops Q S k1 (n + 1) a w :=
  ⟨o, ho, hw, by
    unfold Oper.wp
    rw [he]
    refine Calls.mono hc ?_
    rintro e w' ⟨v, rfl, h⟩
    exact ⟨put_defers, h⟩⟩
theorem wpSoft.value {k1 n : Nat} {a : Act} {w w1 : World} {o : Oper} (v : Value) (ho : ops[k1 - (n + 1)]? = some o) (hw : Region.wanted o (yielded ops a.tmps) = true)
    (he : (execOp a.eval o).run P w = .ok (.value v) w1) (hS : S w1) (h : ∀ w'', Mk0 w1 w'' → S w'' → wpSoft P ops Q S k1 n (a.put o.dst v) w'') : wpSoft P ops Q S k1 (n + 1) a w :=
  ⟨o, ho, hw, by
    unfold Oper.wp
    rw [he]
    exact ⟨put_defers, hS, h⟩⟩
theorem wpSoft.done {k1 : Nat} {a : Act} {w : World} (h : wpList P ops (noPan Q) (ops.toList.drop k1) a w) : wpSoft P ops Q S k1 0 a w := h
/-- The early walk: operation k and those behind it, m of them; what needs S the first of the late ones must wait for. -/
def WkS (P : Program) (ops : Array Oper) (T : Act → World → Prop) (S : World → Prop) (k0 k1 : Nat) : Nat → Nat → Act → Prop
  | 0, _, a => ∀ w, S w → T a w
  | m + 1, k, a => ∃ (v : Value) (o : Oper), ops[k]? = some o ∧
      ((Region.wanted o (yielded ops a.tmps) = true ∧ ((∀ w, (execOp a.eval o).run P w = .ok (.value v) w) ∨ (waits ops ops.size k1 k = true ∧ ∀ w, S w → (execOp a.eval o).run P w = .ok (.value v) w) ∨
          (waits ops ops.size k1 k = true ∧ ∀ w, S w → o.wp P a w (fun a' w' => a' = a.put o.dst v ∧ S w' ∧ Mk0 w w') noOut))) ∨
        (Region.wanted o (yielded ops a.tmps) = false ∧ v = undef)) ∧
      WkS P ops T S k0 k1 m (k + 1) (a.put o.dst v)
section
variable {T : Act → World → Prop} {k0 k1 m k : Nat} {a : Act} {v : Value} {o : Oper}
theorem WkS.pure (ho : ops[k]? = some o) (hw : Region.wanted o (yielded ops a.tmps) = true)
    (hv : ∀ w, (execOp a.eval o).run P w = .ok (.value v) w) (h : WkS P ops T S k0 k1 m (k + 1) (a.put o.dst v)) : WkS P ops T S k0 k1 (m + 1) k a :=
  ⟨v, o, ho, .inl ⟨hw, .inl hv⟩, h⟩
theorem WkS.step (ho : ops[k]? = some o) (hw : Region.wanted o (yielded ops a.tmps) = true) (hk : waits ops ops.size k1 k = true)
    (hv : ∀ w, S w → (execOp a.eval o).run P w = .ok (.value v) w) (h : WkS P ops T S k0 k1 m (k + 1) (a.put o.dst v)) : WkS P ops T S k0 k1 (m + 1) k a :=
  ⟨v, o, ho, .inl ⟨hw, .inr (.inl ⟨hk, hv⟩)⟩, h⟩
theorem WkS.skip (ho : ops[k]? = some o) (hw : Region.wanted o (yielded ops a.tmps) = false)
    (h : WkS P ops T S k0 k1 m (k + 1) (a.put o.dst undef)) : WkS P ops T S k0 k1 (m + 1) k a := ⟨undef, o, ho, .inr ⟨hw, rfl⟩, h⟩
theorem WkS.call (f : FuncId) (args : Array Value) (ho : ops[k]? = some o) (hw : Region.wanted o (yielded ops a.tmps) = true) (hk : waits ops ops.size k1 k = true)
    (he : ∀ w, S w → (execOp a.eval o).run P w = .ok (.enter f args) w) (hc : ∀ w, S w → Calls P f args w fun e w' => e = .returned v ∧ S w' ∧ Mk0 w w')
    (h : WkS P ops T S k0 k1 m (k + 1) (a.put o.dst v)) : WkS P ops T S k0 k1 (m + 1) k a :=
  ⟨v, o, ho, .inl ⟨hw, .inr (.inr ⟨hk, fun w hS => by
    unfold Oper.wp
    rw [he w hS]
    refine Calls.mono (hc w hS) ?_
    rintro e w' ⟨rfl, hS'⟩
    exact ⟨rfl, hS'⟩⟩)⟩, h⟩
theorem WkS.done (h : ∀ w, S w → T a w) : WkS P ops T S k0 k1 0 k a := h
end

/-- The early operation leaves the frame as it is: its value stands there already. -/
def StepS_ (P : Program) (ops : Array Oper) (S : World → Prop) (aF : Act) (k0 k1 i : Nat) : Prop :=
  ∀ o, ops[i]? = some o → ∃ v, (∀ d, o.dst = some d → d < aF.tmps.size → aF.tmps[d]? = some v) ∧
    ((Region.wanted o (yielded ops aF.tmps) = true ∧ ((∀ w, (execOp aF.eval o).run P w = .ok (.value v) w) ∨ (waits ops ops.size k1 i = true ∧ ∀ w, S w → (execOp aF.eval o).run P w = .ok (.value v) w) ∨ (waits ops ops.size k1 i = true ∧ ∀ w, S w → o.wp P aF w (fun a' w' => a' = aF ∧ S w' ∧ Mk0 w w') noOut))) ∨
      (Region.wanted o (yielded ops aF.tmps) = false ∧ v = undef))

theorem wks_out {k0 k1 : Nat} (hok : regOkT ops k0 = true) {T : Act → World → Prop} : ∀ (m k : Nat) (a : Act), k + m ≤ k0 → WkS P ops T S k0 k1 m k a →
    ∃ aF, (∀ i, k ≤ i → i < k + m → StepS_ P ops S aF k0 k1 i) ∧ (∀ w, S w → T aF w) ∧ aF.tmps.size = a.tmps.size ∧ aF.defers = a.defers ∧
      ∀ t, (∀ i o, k ≤ i → i < k + m → ops[i]? = some o → o.dst ≠ some t) → aF.tmps[t]? = a.tmps[t]?
  | 0, k, a, _, h => ⟨a, fun i hi hj => by omega, h, rfl, rfl, fun _ _ => rfl⟩
  | m + 1, k, a, hkm, ⟨v, o, ho, hstep, h⟩ => by
    obtain ⟨aF, h1, h2, h3, h4, h5⟩ := wks_out hok m (k + 1) _ (by omega) h
    obtain ⟨q1, q2, q3⟩ := regOkT_at hok ho
    rw [put_defers] at h4
    rw [put_size] at h3
    have hlate : ∀ t, t ∈ o.looksAt ops → aF.tmps[t]? = a.tmps[t]? := by
      intro t ht
      rw [← put_other (a := a) (dst := o.dst) (v := v) (t := t) (fun e => q2 _ e ht)]
      refine h5 t fun i oi hi hj hoi hdi => ?_
      rcases (q3 i oi t (by omega) hoi hdi).2 ht with ⟨e, he, hb, heq⟩ | ⟨_, h6, _⟩
      · have := q1 e he hb
        omega
      · omega
    have hdstF : ∀ d, o.dst = some d → d < aF.tmps.size → aF.tmps[d]? = some v := by
      intro d hdd hlt
      rw [h5 d fun i oi hi hj hoi hdi => (q3 i oi d (by omega) hoi hdi).1 hdd, hdd]
      have hlt2 : d < a.tmps.size := h3 ▸ hlt
      simp [Act.put, hlt2]
    refine ⟨aF, fun i hi hj => ?_, h2, h3, h4, fun t ht => ?_⟩
    · by_cases hik : i = k
      · subst hik
        intro o' ho'
        rw [ho] at ho'
        injection ho' with ho'
        subst ho'
        obtain ⟨hev, hw⟩ := same_exec hok ho hlate
        refine ⟨v, hdstF, ?_⟩
        rw [hw, hev]
        refine hstep.imp (fun ⟨hw1, hs⟩ => ⟨hw1, hs.imp id fun hs => hs.imp id fun ⟨hk, hwp⟩ => ⟨hk, fun w hS => ?_⟩⟩) id
        have h6 := hwp w hS
        unfold Oper.wp at *
        rw [hev]
        have hput : ∀ u, a.put o.dst u = a.put o.dst v → aF.put o.dst u = aF := fun u hu => put_eq_iff.2 fun d hdd hlt => by
          rw [hdstF d hdd hlt]
          rw [hdd] at hu
          have h7 : (a.put (some d) u).tmps[d]? = (a.put (some d) v).tmps[d]? := by rw [hu]
          have hlt2 : d < a.tmps.size := h3 ▸ hlt
          simp [Act.put, hlt2] at h7
          rw [h7]
        revert h6
        generalize (execOp a.eval o).run P w = r
        intro h6
        cases r with
        | ok n w' =>
          cases n with
          | value u => exact ⟨hput _ h6.1, h6.2⟩
          | skip => exact ⟨hput _ h6.1, h6.2⟩
          | defer d =>
            have h7 : ({ a with defers := d :: a.defers }.put o.dst undef) = a.put o.dst v := h6.1
            have h8 : (({ a with defers := d :: a.defers } : Act).put o.dst undef).defers = d :: a.defers := by cases o.dst <;> rfl
            rw [h7, put_defers] at h8
            have := congrArg List.length h8
            simp at this
          | enter f args =>
            refine Calls.mono (show Calls P f args w' _ from h6) fun e w'' he => ?_
            cases e with
            | returned u => exact ⟨hput _ he.1, he.2⟩
            | panicked c => exact he
            | outgrown => exact he
          | row row args => exact Rows.mono (show Rows P row args w' _ from h6) fun u w'' he => ⟨hput _ he.1, he.2⟩
          | _ => exact h6
        | halt x w' => cases x <;> exact h6
      · exact h1 i (by omega) (by omega)
    · rw [← put_other (a := a) (dst := o.dst) (v := v) (t := t) (ht k o (Nat.le_refl _) (by omega) ho)]
      exact h5 t fun i oi hi hj => ht i oi (by omega) (by omega)

/-- How far a run of the region has come. -/
def PhaseS (P : Program) (ops : Array Oper) (Q : Exit → Act → World → Prop) (S : World → Prop) (k0 k1 : Nat) (aF : Act) (listed : Array Bool) (aE : Act) (w : World) : Prop :=
  (aE = aF ∧ S w ∧ ∀ i, k0 ≤ i → i < ops.size → listed.getD i true = false) ∨
  (∃ j, k0 + j ≤ ops.size ∧ (∀ i, k0 ≤ i → i < ops.size → (listed.getD i true = true ↔ i < k0 + j)) ∧ True ∧
    (∀ t, (∀ i o, k0 ≤ i → ops[i]? = some o → listed.getD i true = true → o.dst ≠ some t) → aE.tmps[t]? = aF.tmps[t]?) ∧ aE.tmps.size = aF.tmps.size ∧
      ((k0 + j ≤ k1 ∧ S w ∧ aE.defers = aF.defers ∧ ∀ w'', Mk0 w w'' → S w'' → wpSoft P ops Q S k1 (k1 - (k0 + j)) aE w'') ∨ (k1 ≤ k0 + j ∧ (∀ i, i < k0 → waits ops ops.size k1 i = true → listed.getD i true = true) ∧ wpList P ops (noPan Q) (ops.toList.drop (k0 + j)) aE w)))

theorem wpAny_s {k0 k1 : Nat} (hok : regOkT ops k0 = true) (hch : chainOk ops k0 = true) (hk01 : k0 ≤ k1) (hk1 : k1 ≤ ops.size) {aF : Act} (hE : ∀ i, i < k0 → StepS_ P ops S aF k0 k1 i)
    (hT : ∀ w, S w → wpSoft P ops Q S k1 (k1 - k0) aF w) :
    ∀ (fuel : Nat) (listed : Array Bool) (a aE : Act) (w : World), listed.size = ops.size → (List.range ops.size).countP (fun i => !listed.getD i true) ≤ fuel →
      Shut ops listed → AgreesT ops k0 listed aE a → PhaseS P ops Q S k0 k1 aF listed aE w → wpAny P .any ops Q fuel listed a w := by
  have key : ∀ (listed : Array Bool) (a aE : Act) (w : World), listed.size = ops.size → AgreesT ops k0 listed aE a → PhaseS P ops Q S k0 k1 aF listed aE w → Region.ready .any ops listed = [] → Q .normal a w := by
    intro listed a aE w hsz hag hph hr
    have hall := all_listed hok hsz hr
    have hae : a = aE := by
      obtain ⟨t1, d1⟩ := a
      obtain ⟨t2, d2⟩ := aE
      have h2 : d2 = d1 := hag.defers
      subst h2
      congr
      refine Array.ext_getElem? fun t => ?_
      exact hag.at_ t fun i o _ ho hl => by rw [hall (i + 1) i (by omega) o ho] at hl; cases hl
    subst hae
    rcases hph with ⟨rfl, hS, hno⟩ | ⟨j, hj, hlate, _, _, _, hwp⟩
    · have hk : k0 = ops.size := by
        rcases Nat.lt_or_ge k0 ops.size with h | h
        · have h1 := hno k0 (Nat.le_refl _) h
          rw [hall (k0 + 1) k0 (by omega) _ (Array.getElem?_eq_getElem h)] at h1
          cases h1
        · omega
      have := hT w hS
      rw [show k1 - k0 = 0 by omega] at this
      unfold wpSoft at this
      rw [List.drop_eq_nil_of_le (by simp; omega)] at this
      exact this
    · have hk : k0 + j = ops.size := by
        rcases Nat.lt_or_ge (k0 + j) ops.size with h | h
        · have h1 := (hlate (k0 + j) (by omega) h).1 (hall (k0 + j + 1) (k0 + j) (by omega) _ (Array.getElem?_eq_getElem h))
          omega
        · omega
      rcases hwp with ⟨h6, hS6, _, hwp⟩ | ⟨_, _, hwp⟩
      · replace hwp := hwp w (Mk.refl _ _ _) hS6
        rw [show k1 - (k0 + j) = 0 by omega] at hwp
        unfold wpSoft at hwp
        rw [List.drop_eq_nil_of_le (by simp; omega)] at hwp
        exact hwp
      · rw [List.drop_eq_nil_of_le (by simp; omega)] at hwp
        exact hwp
  intro fuel
  induction fuel with
  | zero =>
    intro listed a aE w hsz hc hsh hag hph
    have hr : Region.ready .any ops listed = [] := by
      rw [List.eq_nil_iff_forall_not_mem]
      intro i hi
      obtain ⟨hl, o, ho, _⟩ := mem_ready.1 hi
      have h0 : (List.range ops.size).countP (fun i => !listed.getD i true) = 0 := by omega
      rw [List.countP_eq_zero] at h0
      have := h0 i (List.mem_range.2 (Array.getElem?_eq_some_iff.1 ho).1)
      simp [hl] at this
    exact ⟨hr, key listed a aE w hsz hag hph hr⟩
  | succ fuel ih =>
    intro listed a aE w hsz hc hsh hag hph
    refine ⟨key listed a aE w hsz hag hph, fun i hi => ?_⟩
    obtain ⟨hl, o, ho, hdone⟩ := mem_ready.1 hi
    have hio := (Array.getElem?_eq_some_iff.1 ho).1
    have hil : i < listed.size := by omega
    obtain ⟨q1, q2, q3⟩ := regOkT_at hok ho
    -- what does not hang on which kind of operation came up
    have hset : ∀ j, j ≠ i → (listed.setIfInBounds i true).getD j true = listed.getD j true := fun j hj => getD_set_ne true (Ne.symm hj)
    have hseti : (listed.setIfInBounds i true).getD i true = true := by simp [Array.getD, hil]
    have hsz' : (listed.setIfInBounds i true).size = ops.size := by simpa using hsz
    have hc' : (List.range ops.size).countP (fun j => !(listed.setIfInBounds i true).getD j true) ≤ fuel := by
      have := countP_lt (p := fun j => !listed.getD j true) (p' := fun j => !(listed.setIfInBounds i true).getD j true) (i := i)
        (fun j hj => by
          by_cases hji : j = i
          · subst hji; rw [hseti] at hj; cases hj
          · rw [hset j hji] at hj; exact hj) (by simp [hl]) (by simp [Array.getD, hil]) _ (List.mem_range.2 hio)
      omega
    have hsh' : Shut ops (listed.setIfInBounds i true) := by
      intro q oq hoq hlq e he hb
      have hq := (Array.getElem?_eq_some_iff.1 hoq).1
      rw [getD_tf (by omega)] at hlq
      have hmono : listed.getD e.on false = true → (listed.setIfInBounds i true).getD e.on false = true := fun h => getD_set_true h
      by_cases hqi : q = i
      · subst hqi
        rw [ho] at hoq
        injection hoq with hoq
        subst hoq
        exact hmono (hdone e he hb)
      · rw [hset q hqi] at hlq
        exact hmono (hsh q oq hoq (by rw [getD_tf (by omega)]; exact hlq) e he hb)
    have hseen : ∀ t ∈ o.looksAt ops, ∀ q oq, ops[q]? = some oq → oq.dst = some t → (q < i ∧ listed.getD q true = true) ∨ (k0 ≤ q ∧ listed.getD q true = false) := fun t ht q oq hoq hdq => by
      by_cases hqi : q = i
      · subst hqi
        rw [ho] at hoq
        injection hoq with hoq
        subst hoq
        exact absurd ht (q2 t hdq)
      · rcases (q3 q oq t hqi hoq hdq).2 ht with ⟨e, he, hb, heq⟩ | ⟨_, h6, h7⟩
        · have h1 := hdone e he hb
          have h2 := q1 e he hb
          rw [heq] at h1 h2
          rw [getD_tf (by omega)] at h1
          exact .inl ⟨h2, h1⟩
        · refine .inr ⟨h6, ?_⟩
          have hqs := (Array.getElem?_eq_some_iff.1 hoq).1
          cases hlq : listed.getD q true with
          | false => rfl
          | true =>
            have := waits_listed hsh ops.size q i h7 fun o' ho' => hsh q o' ho' (by rw [getD_tf (by omega)]; exact hlq)
            rw [getD_tf (by omega), hl] at this
            cases this
    have hlook : ∀ t ∈ o.looksAt ops, a.tmps[t]? = aE.tmps[t]? := fun t ht => hag.at_ t fun q oq hqk hoq hlq hdq => by
      rcases hseen t ht q oq hoq hdq with ⟨_, h6⟩ | ⟨h6, _⟩
      · rw [h6] at hlq
        cases hlq
      · omega
    unfold wpOp
    simp only [ho]
    by_cases hik : i < k0
    · -- an early one
      obtain ⟨v, hdst, hcase⟩ := hE i hik o ho
      have hEF : ∀ t, (∀ q oq, k0 ≤ q → ops[q]? = some oq → listed.getD q true = true → oq.dst ≠ some t) → aE.tmps[t]? = aF.tmps[t]? := by
        intro t ht
        rcases hph with ⟨rfl, _⟩ | ⟨_, _, _, _, h, _⟩
        · rfl
        · exact h t ht
      have hsE : aE.tmps.size = aF.tmps.size := by
        rcases hph with ⟨rfl, _⟩ | ⟨_, _, _, _, _, h, _⟩
        · rfl
        · exact h
      have hlookF : ∀ t ∈ o.looksAt ops, a.tmps[t]? = aF.tmps[t]? := fun t ht => (hlook t ht).trans (hEF t fun q oq hq hoq hlq hdq => by
        rcases hseen t ht q oq hoq hdq with ⟨h6, _⟩ | ⟨_, h6⟩
        · omega
        · rw [h6] at hlq
          cases hlq)
      obtain ⟨hev, hw⟩ := same_exec hok ho hlookF
      have next : ∀ u w', (∀ d, o.dst = some d → d < aF.tmps.size → aF.tmps[d]? = some u) → PhaseS P ops Q S k0 k1 aF (listed.setIfInBounds i true) aE w' → wpAny P .any ops Q fuel (listed.setIfInBounds i true) (a.put o.dst u) w' := by
        intro u w' hu hph'
        refine ih _ _ aE _ hsz' hc' hsh' ⟨?_, ?_, fun t ht => ?_⟩ hph'
        · rw [put_size]; exact hag.size
        · rw [put_defers]; exact hag.defers
        · by_cases hdt : o.dst = some t
          · have hlt := hu t hdt
            rw [hEF t fun q oq hq hoq _ hdq => (q3 q oq t (by omega) hoq hdq).1 hdt, hdt]
            simp only [Act.put]
            rw [Array.getElem?_setIfInBounds, if_pos rfl]
            have hs2 := hag.size
            split
            · rename_i hs
              exact (hlt (show t < aF.tmps.size by rw [← hsE, ← hs2]; exact hs)).symm
            · rename_i hs
              exact (Array.getElem?_eq_none (xs := aF.tmps) (show aF.tmps.size ≤ t by rw [← hsE, ← hs2]; exact Nat.le_of_not_lt hs)).symm
          · rw [put_other hdt]
            refine hag.at_ t fun q oq hq hoq hlq => ?_
            by_cases hqi : q = i
            · subst hqi
              rw [ho] at hoq
              injection hoq with hoq
              subst hoq
              exact hdt
            · exact ht q oq hq hoq (by rw [hset q hqi]; exact hlq)
      have hph1 : PhaseS P ops Q S k0 k1 aF (listed.setIfInBounds i true) aE w := by
        rcases hph with ⟨h1, h2, h3⟩ | ⟨j, hj, h1, h2, h3⟩
        · exact .inl ⟨h1, h2, fun q hq hqs => by rw [hset q (by omega)]; exact h3 q hq hqs⟩
        · exact .inr ⟨j, hj, fun q hq hqs => by rw [hset q (by omega)]; exact h1 q hq hqs, trivial, (fun t ht => h3.1 t fun q oq hq hoq hlq => ht q oq hq hoq (by rw [hset q (by omega)]; exact hlq)), h3.2.1, h3.2.2.imp id fun h6 => ⟨h6.1, fun q hq hwq => by
            by_cases hqi : q = i
            · subst hqi; exact hseti
            · rw [hset q hqi]; exact h6.2.1 q hq hwq, h6.2.2⟩⟩
      rcases hcase with ⟨hw1, hrun | ⟨hwt, hld⟩ | ⟨hwt, hwp⟩⟩ | ⟨hw1, rfl⟩
      · rw [hw, hw1, if_pos rfl]
        refine .inl ?_
        unfold Oper.wp
        rw [hev, hrun w]
        exact next v w hdst hph1
      · rw [hw, hw1, if_pos rfl]
        refine .inl ?_
        have hSw : S w := by
          rcases hph with ⟨_, hS, _⟩ | ⟨j, hj, h1, h2, h3, h4, h6 | h6⟩
          · exact hS
          · exact h6.2.1
          · rw [h6.2.1 i hik hwt] at hl
            cases hl
        unfold Oper.wp
        rw [hev, hld w hSw]
        exact next v w hdst hph1
      · rw [hw, hw1, if_pos rfl]
        refine .inl ?_
        rcases hph with ⟨hEq, hS, h3⟩ | ⟨j, hj, h1, h2, h3, h4, h6 | h6⟩
        · have h4 := hwp w hS
          unfold Oper.wp at *
          rw [hev]
          refine upon_transfer (aF := aF) (S := fun w' => S w' ∧ Mk0 w w') (fun u w' hu hS' => next u w' (put_eq_iff.1 hu) ?_) (by rw [← hEq]; exact hag.defers) h4
          exact .inl ⟨hEq, hS'.1, fun q hq hqs => by rw [hset q (by omega)]; exact h3 q hq hqs⟩
        · have h7 := hwp w h6.2.1
          unfold Oper.wp at *
          rw [hev]
          refine upon_transfer (aF := aF) (S := fun w' => S w' ∧ Mk0 w w') (fun u w' hu hS' => next u w' (put_eq_iff.1 hu) ?_) (by rw [← h6.2.2.1]; exact hag.defers) h7
          exact .inr ⟨j, hj, fun q hq hqs => by rw [hset q (by omega)]; exact h1 q hq hqs, trivial, fun t ht => h3 t fun q oq hq hoq hlq => ht q oq hq hoq (by rw [hset q (by omega)]; exact hlq), h4, .inl ⟨h6.1, hS'.1, h6.2.2.1, fun w'' m hS'' => h6.2.2.2 w'' (hS'.2.trans m) hS''⟩⟩
        · rw [h6.2.1 i hik hwt] at hl
          cases hl
      · rw [hw, hw1, if_neg (by decide)]
        exact next undef w hdst hph1
    · -- a late one
      have hki : k0 ≤ i := by omega
      have hB : ∃ j, k0 + j = i ∧ (∀ q, k0 ≤ q → q < ops.size → (listed.getD q true = true ↔ q < k0 + j)) ∧ True ∧
          (∀ t, (∀ q oq, k0 ≤ q → ops[q]? = some oq → listed.getD q true = true → oq.dst ≠ some t) → aE.tmps[t]? = aF.tmps[t]?) ∧ aE.tmps.size = aF.tmps.size ∧
          ((k0 + j < k1 ∧ aE.defers = aF.defers ∧ wpSoft P ops Q S k1 (k1 - (k0 + j)) aE w) ∨ (k1 ≤ k0 + j ∧ (∀ q, q < k0 → waits ops ops.size k1 q = true → listed.getD q true = true) ∧ wpList P ops (noPan Q) (ops.toList.drop (k0 + j)) aE w)) := by
        have hw1 : i = k1 → ∀ q, q < k0 → waits ops ops.size k1 q = true → listed.getD q true = true := fun hik1 q hq hwq => by
          subst hik1
          have := waits_listed hsh ops.size i q hwq fun o' ho' => by
            rw [ho] at ho'
            injection ho' with ho'
            subst ho'
            exact hdone
          rwa [getD_tf (by omega)] at this
        have hprev : k0 < i → listed.getD (i - 1) true = true := fun h => by
          obtain ⟨e, he, hb, heq⟩ := chainOk_at hch ho h
          have := hdone e he hb
          rw [heq, getD_tf (by omega)] at this
          exact this
        rcases hph with ⟨rfl, hS, h3⟩ | ⟨j, hj, h1, h2, h3, h4, h5⟩
        · have hi0 : i = k0 := by
            rcases Nat.lt_or_ge k0 i with h | h
            · have := hprev h
              rw [h3 (i - 1) (by omega) (by omega)] at this
              cases this
            · omega
          subst hi0
          refine ⟨0, rfl, fun q hq hqs => ⟨(fun h => by rw [h3 q hq hqs] at h; cases h), (fun h => by omega)⟩, trivial, fun _ _ => rfl, rfl, ?_⟩
          · have h7 := hT w hS
            rcases Nat.lt_or_ge i k1 with h | h
            · exact .inl ⟨h, rfl, h7⟩
            · refine .inr ⟨h, hw1 (by omega), ?_⟩
              rw [show k1 - i = 0 by omega] at h7
              unfold wpSoft at h7
              rw [show i + 0 = k1 by omega]
              exact h7
        · have e1 : ¬ i < k0 + j := fun h => by
            rw [(h1 i hki hio).2 h] at hl
            cases hl
          have hji : k0 + j = i := by
            rcases Nat.lt_or_ge (k0 + j) i with h | h
            · have := (h1 (i - 1) (by omega) (by omega)).1 (hprev (by omega))
              omega
            · omega
          refine ⟨j, hji, h1, h2, h3, h4, ?_⟩
          rcases h5 with ⟨h6, hSw, hdf, h7⟩ | h6
          · rcases Nat.lt_or_ge (k0 + j) k1 with h | h
            · exact .inl ⟨h, hdf, h7 w (Mk.refl _ _ _) hSw⟩
            · refine .inr ⟨h, hw1 (by omega), ?_⟩
              replace h7 := h7 w (Mk.refl _ _ _) hSw
              rw [show k1 - (k0 + j) = 0 by omega] at h7
              unfold wpSoft at h7
              rw [show k0 + j = k1 by omega]
              exact h7
          · exact .inr h6
      obtain ⟨j, rfl, h1, h2, h3, h4, h5⟩ := hB
      have hdrop : ops.toList.drop (k0 + j) = o :: ops.toList.drop (k0 + (j + 1)) := by
        have hlt : k0 + j < ops.toList.length := by simpa using hio
        rw [List.drop_eq_getElem_cons hlt]
        have : ops.toList[k0 + j] = o := by
          have := (Array.getElem?_eq_some_iff.1 ho).2
          simpa using this
        rw [this]
        rfl
      obtain ⟨hev, hw⟩ := same_exec hok ho hlook
      have next : ∀ ds u w', ((k0 + (j + 1) ≤ k1 ∧ S w' ∧ ({ aE with defers := ds }.put o.dst u).defers = aF.defers ∧ ∀ w'', Mk0 w' w'' → S w'' → wpSoft P ops Q S k1 (k1 - (k0 + (j + 1))) ({ aE with defers := ds }.put o.dst u) w'') ∨ (k1 ≤ k0 + j ∧ (∀ q, q < k0 → waits ops ops.size k1 q = true → listed.getD q true = true) ∧ wpList P ops (noPan Q) (ops.toList.drop (k0 + (j + 1))) ({ aE with defers := ds }.put o.dst u) w')) → wpAny P .any ops Q fuel (listed.setIfInBounds (k0 + j) true) ({ a with defers := ds }.put o.dst u) w' := by
        intro ds u w' hwl
        refine ih _ _ ({ aE with defers := ds }.put o.dst u) _ hsz' hc' hsh' ⟨?_, ?_, fun t ht => ?_⟩ (.inr ⟨j + 1, by omega, fun q hq hqs => ?_, trivial, fun t ht => ?_, ?_, hwl.imp id fun h6 => ⟨by omega, fun q hq hwq => by rw [hset q (by omega)]; exact h6.2.1 q hq hwq, h6.2.2⟩⟩)
        · rw [put_size, put_size]; exact hag.size
        · rw [put_defers, put_defers]
        · by_cases hdt : o.dst = some t
          · rw [hdt]
            have hs2 := hag.size
            simp only [Act.put]
            rw [Array.getElem?_setIfInBounds, Array.getElem?_setIfInBounds, if_pos rfl, if_pos rfl, hs2]
          · rw [put_other hdt, put_other hdt]
            exact hag.at_ t fun q oq hq hoq hlq => ht q oq hq hoq (by rw [hset q (by omega)]; exact hlq)
        · by_cases hqi : q = k0 + j
          · subst hqi; rw [hseti]; simp
          · rw [hset q hqi, h1 q hq hqs]; omega
        · rw [put_other (ht _ o (by omega) ho hseti)]
          exact h3 t fun q oq hq hoq hlq => ht q oq hq hoq (by
            by_cases hqi : q = k0 + j
            · subst hqi; exact hseti
            · rw [hset q hqi]; exact hlq)
        · rw [put_size]; exact h4
      rcases h5 with ⟨hlt, hdf, h5⟩ | ⟨hge, hall1, h5⟩
      · obtain ⟨n, hn⟩ : ∃ n, k1 - (k0 + j) = n + 1 := ⟨k1 - (k0 + j) - 1, by omega⟩
        rw [hn] at h5
        unfold wpSoft at h5
        obtain ⟨o', ho', hw', h5⟩ := h5
        rw [show k1 - (n + 1) = k0 + j by omega, ho] at ho'
        injection ho' with ho'
        subst ho'
        rw [hw, hw', if_pos rfl]
        refine .inl ?_
        unfold Oper.wp at *
        rw [hev]
        exact upon_two hag.defers (fun ds u w' h6 => next ds u w' (.inl ⟨by omega, h6.2.1, h6.1.trans hdf, by rw [show k1 - (k0 + (j + 1)) = n by omega]; exact h6.2.2⟩)) h5
      rw [hdrop] at h5
      unfold wpList at h5
      rw [hw]
      split at h5
      · rename_i hwv
        rw [if_pos hwv]
        rcases h5 with h5 | ⟨hasks, hlets⟩
        · refine .inl ?_
          unfold Oper.wp at *
          rw [hev]
          exact upon_two hag.defers (fun ds u w' h6 => next ds u w' (.inr ⟨hge, hall1, h6⟩)) h5
        · refine .inr ⟨?_, letsOut_noPan hlets⟩
          unfold Oper.asks at *
          rw [hev]
          exact hasks
      · rename_i hwv
        rw [if_neg hwv]
        have := fun h6 => next a.defers undef w (.inr ⟨hge, hall1, h6⟩)
        have hd := hag.defers
        obtain ⟨t1, d1⟩ := a
        obtain ⟨t2, d2⟩ := aE
        have hd' : d2 = d1 := hd
        subst hd'
        exact this h5

/-- The beginning: k0 early operations, then the late ones in their order. -/
theorem wp_region_wks {id : Nat} {a : Act} {w : World} {Q : Exit → Act → World → Prop} (S : World → Prop) (k0 k1 : Nat) (hm : P.follows .mixedOrders = true) (hok : regOkT ops k0 = true) (hch : chainOk ops k0 = true) (hk01 : k0 ≤ k1) (hk1 : k1 ≤ ops.size) (hS : S w.drew)
    (h : WkS P ops (wpSoft P ops Q S k1 (k1 - k0)) S k0 k1 k0 0 a) : (Code.region id ops true).wp P Q a w := by
  obtain ⟨aF, h1, h2, h3, h4, h5⟩ := wks_out hok k0 0 a (by omega) h
  refine wp_region_any hm (wpAny_s hok hch hk01 hk1 (fun i hi => h1 i (Nat.zero_le _) (by omega)) h2 ops.size _ a aF _ (by simp) ?_ ?_ ⟨h3.symm, h4, fun t ht => (h5 t fun i o _ hi ho => ht i o (by omega) ho ?_).symm⟩ (.inl ⟨rfl, hS, fun i _ hi => ?_⟩))
  · exact Nat.le_trans List.countP_le_length (by simp)
  · intro i o ho hl
    simp [Array.getD] at hl
  · have := (Array.getElem?_eq_some_iff.1 ho).1
    simp [Array.getD, this]
  · simp [Array.getD, hi]
end
end Go.Proofs.Ytdlafigjkefllaa
