
/- A region that draws its order: as in Wt; the first of the late operations keep S, so that what only reads may come up behind them. -/
import Derived.Test.YtoicmmandniagaaWt
import Derived.Test.YtoicmmandniagaaRow
namespace Go.Proofs.Ytoicmmandniagaa
open Go
set_option linter.unusedVariables false
section
variable {P : Program} {ops : Array Oper} {Q : Exit → Act → World → Prop} {S : World → Prop}
/-- The soft late operations, n of them, up to k1; behind them the list. -/
def wpSoft (P : Program) (ops : Array Oper) (Q : Exit → Act → World → Prop) (S : World → Prop) (k1 : Nat) : Nat → Act → World → Prop
  | 0, a, w => wpList P ops (noPan Q) (ops.toList.drop k1) a w
  | n + 1, a, w => ∃ o, ops[k1 - (n + 1)]? = some o ∧ Region.wanted o (yielded ops a.tmps) = true ∧ o.wp P a w (fun a' w' => a'.defers = a.defers ∧ S w' ∧ ∀ w'', Mk0 w' w'' → S w'' → wpSoft P ops Q S k1 n a' w'') (noPan Q)
theorem wpSoft.call {k1 n : Nat} {a : Act} {w : World} {o : Oper} (f : FuncId) (args : Array Value) (ho : ops[k1 - (n + 1)]? = some o) (hw : Region.wanted o (yielded ops a.tmps) = true)
    (he : (execOp a.eval o).run P w = .ok (.enter f args) w) (hc : Calls P f args w fun e w' => ∃ v, e = .returned v ∧ S w' ∧ ∀ w'', Mk0 w' w'' → S w'' → wpSoft P ops Q S k1 n (a.put o.dst v) w'') : wpSoft P ops Q S k1 (n + 1) a w :=
  ⟨o, ho, hw, by
    unfold Oper.wp
    rw [he]
    refine Calls.mono hc ?_
    rintro e w' ⟨v, rfl, h⟩
    exact ⟨put_defers, h⟩⟩
theorem wpSoft.value {k1 n : Nat} {a : Act} {w w1 : World} {o : Oper} (v : Value) (ho : ops[k1 - (n + 1)]? = some o) (hw : Region.wanted o (yielded ops a.tmps) = true)
    (he : (execOp a.eval o).run P w = .ok (.value v) w1) (hS : S w1) (h : ∀ w'', Mk0 w1 w'' → S w'' → wpSoft P ops Q S k1 n (a.put o.dst v) w'') : wpSoft P ops Q S k1 (n + 1) a w :=
  ⟨o, ho, hw, by
    unfold Oper.wp
    rw [he]
    exact ⟨put_defers, hS, h⟩⟩
theorem wpSoft.done {k1 : Nat} {a : Act} {w : World} (h : wpList P ops (noPan Q) (ops.toList.drop k1) a w) : wpSoft P ops Q S k1 0 a w := h
/-- The early walk: operation k and those behind it, m of them; what needs S the first of the late ones must wait for. -/
def WkS (P : Program) (ops : Array Oper) (T : Act → World → Prop) (S : World → Prop) (k0 k1 : Nat) : Nat → Nat → Act → Prop
  | 0, _, a => ∀ w, S w → T a w
  | m + 1, k, a => ∃ (v : Value) (o : Oper), ops[k]? = some o ∧
      ((Region.wanted o (yielded ops a.tmps) = true ∧ ((∀ w, (execOp a.eval o).run P w = .ok (.value v) w) ∨ (waits ops ops.size k1 k = true ∧ ∀ w, S w → (execOp a.eval o).run P w = .ok (.value v) w) ∨
          (waits ops ops.size k1 k = true ∧ ∀ w, S w → o.wp P a w (fun a' w' => a' = a.put o.dst v ∧ S w' ∧ Mk0 w w') noOut))) ∨
        (Region.wanted o (yielded ops a.tmps) = false ∧ v = undef)) ∧
      WkS P ops T S k0 k1 m (k + 1) (a.put o.dst v)
section
variable {T : Act → World → Prop} {k0 k1 m k : Nat} {a : Act} {v : Value} {o : Oper}
theorem WkS.pure (ho : ops[k]? = some o) (hw : Region.wanted o (yielded ops a.tmps) = true)
    (hv : ∀ w, (execOp a.eval o).run P w = .ok (.value v) w) (h : WkS P ops T S k0 k1 m (k + 1) (a.put o.dst v)) : WkS P ops T S k0 k1 (m + 1) k a :=
  ⟨v, o, ho, .inl ⟨hw, .inl hv⟩, h⟩
theorem WkS.step (ho : ops[k]? = some o) (hw : Region.wanted o (yielded ops a.tmps) = true) (hk : waits ops ops.size k1 k = true)
    (hv : ∀ w, S w → (execOp a.eval o).run P w = .ok (.value v) w) (h : WkS P ops T S k0 k1 m (k + 1) (a.put o.dst v)) : WkS P ops T S k0 k1 (m + 1) k a :=
  ⟨v, o, ho, .inl ⟨hw, .inr (.inl ⟨hk, hv⟩)⟩, h⟩
theorem WkS.skip (ho : ops[k]? = some o) (hw : Region.wanted o (yielded ops a.tmps) = false)
    (h : WkS P ops T S k0 k1 m (k + 1) (a.put o.dst undef)) : WkS P ops T S k0 k1 (m + 1) k a := ⟨undef, o, ho, .inr ⟨hw, rfl⟩, h⟩
theorem WkS.call (f : FuncId) (args : Array Value) (ho : ops[k]? = some o) (hw : Region.wanted o (yielded ops a.tmps) = true) (hk : waits ops ops.size k1 k = true)
    (he : ∀ w, S w → (execOp a.eval o).run P w = .ok (.enter f args) w) (hc : ∀ w, S w → Calls P f args w fun e w' => e = .returned v ∧ S w' ∧ Mk0 w w')
    (h : WkS P ops T S k0 k1 m (k + 1) (a.put o.dst v)) : WkS P ops T S k0 k1 (m + 1) k a :=
  ⟨v, o, ho, .inl ⟨hw, .inr (.inr ⟨hk, fun w hS => by
    unfold Oper.wp
    rw [he w hS]
    refine Calls.mono (hc w hS) ?_
    rintro e w' ⟨rfl, hS'⟩
    exact ⟨rfl, hS'⟩⟩)⟩, h⟩
theorem WkS.done (h : ∀ w, S w → T a w) : WkS P ops T S k0 k1 0 k a := h
end

/-- The early operation leaves the frame as it is: its value stands there already. -/
def StepS_ (P : Program) (ops : Array Oper) (S : World → Prop) (aF : Act) (k0 k1 i : Nat) : Prop :=
  ∀ o, ops[i]? = some o → ∃ v, (∀ d, o.dst = some d → d < aF.tmps.size → aF.tmps[d]? = some v) ∧
    ((Region.wanted o (yielded ops aF.tmps) = true ∧ ((∀ w, (execOp aF.eval o).run P w = .ok (.value v) w) ∨ (waits ops ops.size k1 i = true ∧ ∀ w, S w → (execOp aF.eval o).run P w = .ok (.value v) w) ∨ (waits ops ops.size k1 i = true ∧ ∀ w, S w → o.wp P aF w (fun a' w' => a' = aF ∧ S w' ∧ Mk0 w w') noOut))) ∨
      (Region.wanted o (yielded ops aF.tmps) = false ∧ v = undef))

theorem wks_out {k0 k1 : Nat} (hok : regOkT ops k0 = true) {T : Act → World → Prop} : ∀ (m k : Nat) (a : Act), k + m ≤ k0 → WkS P ops T S k0 k1 m k a →
    ∃ aF, (∀ i, k ≤ i → i < k + m → StepS_ P ops S aF k0 k1 i) ∧ (∀ w, S w → T aF w) ∧ aF.tmps.size = a.tmps.size ∧ aF.defers = a.defers ∧
      ∀ t, (∀ i o, k ≤ i → i < k + m → ops[i]? = some o → o.dst ≠ some t) → aF.tmps[t]? = a.tmps[t]?
  | 0, k, a, _, h => ⟨a, fun i hi hj => by omega, h, rfl, rfl, fun _ _ => rfl⟩
  | m + 1, k, a, hkm, ⟨v, o, ho, hstep, h⟩ => by
    obtain ⟨aF, h1, h2, h3, h4, h5⟩ := wks_out hok m (k + 1) _ (by omega) h
    obtain ⟨q1, q2, q3⟩ := regOkT_at hok ho
    rw [put_defers] at h4
    rw [put_size] at h3
    have hlate : ∀ t, t ∈ o.looksAt ops → aF.tmps[t]? = a.tmps[t]? := by
      intro t ht
      rw [← put_other (a := a) (dst := o.dst) (v := v) (t := t) (fun e => q2 _ e ht)]
      refine h5 t fun i oi hi hj hoi hdi => ?_
      rcases (q3 i oi t (by omega) hoi hdi).2 ht with ⟨e, he, hb, heq⟩ | ⟨_, h6, _⟩
      · have := q1 e he hb
        omega
      · omega
    have hdstF : ∀ d, o.dst = some d → d < aF.tmps.size → aF.tmps[d]? = some v := by
      intro d hdd hlt
      rw [h5 d fun i oi hi hj hoi hdi => (q3 i oi d (by omega) hoi hdi).1 hdd, hdd]
      have hlt2 : d < a.tmps.size := h3 ▸ hlt
      simp [Act.put, hlt2]
    refine ⟨aF, fun i hi hj => ?_, h2, h3, h4, fun t ht => ?_⟩
    · by_cases hik : i = k
      · subst hik
        intro o' ho'
        rw [ho] at ho'
        injection ho' with ho'
        subst ho'
        obtain ⟨hev, hw⟩ := same_exec hok ho hlate
        refine ⟨v, hdstF, ?_⟩
        rw [hw, hev]
        refine hstep.imp (fun ⟨hw1, hs⟩ => ⟨hw1, hs.imp id fun hs => hs.imp id fun ⟨hk, hwp⟩ => ⟨hk, fun w hS => ?_⟩⟩) id
        have h6 := hwp w hS
        unfold Oper.wp at *
        rw [hev]
        have hput : ∀ u, a.put o.dst u = a.put o.dst v → aF.put o.dst u = aF := fun u hu => put_eq_iff.2 fun d hdd hlt => by
          rw [hdstF d hdd hlt]
          rw [hdd] at hu
          have h7 : (a.put (some d) u).tmps[d]? = (a.put (some d) v).tmps[d]? := by rw [hu]
          have hlt2 : d < a.tmps.size := h3 ▸ hlt
          simp [Act.put, hlt2] at h7
          rw [h7]
        revert h6
        generalize (execOp a.eval o).run P w = r
        intro h6
        cases r with
        | ok n w' =>
          cases n with
          | value u => exact ⟨hput _ h6.1, h6.2⟩
          | skip => exact ⟨hput _ h6.1, h6.2⟩
          | defer d =>
            have h7 : ({ a with defers := d :: a.defers }.put o.dst undef) = a.put o.dst v := h6.1
            have h8 : (({ a with defers := d :: a.defers } : Act).put o.dst undef).defers = d :: a.defers := by cases o.dst <;> rfl
            rw [h7, put_defers] at h8
            have := congrArg List.length h8
            simp at this
          | enter f args =>
            refine Calls.mono (show Calls P f args w' _ from h6) fun e w'' he => ?_
            cases e with
            | returned u => exact ⟨hput _ he.1, he.2⟩
            | panicked c => exact he
            | outgrown => exact he
          | row row args => exact Rows.mono (show Rows P row args w' _ from h6) fun u w'' he => ⟨hput _ he.1, he.2⟩
          | _ => exact h6
        | halt x w' => cases x <;> exact h6
      · exact h1 i (by omega) (by omega)
    · rw [← put_other (a := a) (dst := o.dst) (v := v) (t := t) (ht k o (Nat.le_refl _) (by omega) ho)]
      exact h5 t fun i oi hi hj => ht i oi (by omega) (by omega)

/-- How far a run of the region has come. -/
def PhaseS (P : Program) (ops : Array Oper) (Q : Exit → Act → World → Prop) (S : World → Prop) (k0 k1 : Nat) (aF : Act) (listed : Array Bool) (aE : Act) (w : World) : Prop :=
  (aE = aF ∧ S w ∧ ∀ i, k0 ≤ i → i < ops.size → listed.getD i true = false) ∨
  (∃ j, k0 + j ≤ ops.size ∧ (∀ i, k0 ≤ i → i < ops.size → (listed.getD i true = true ↔ i < k0 + j)) ∧ True ∧
    (∀ t, (∀ i o, k0 ≤ i → ops[i]? = some o → listed.getD i true = true → o.dst ≠ some t) → aE.tmps[t]? = aF.tmps[t]?) ∧ aE.tmps.size = aF.tmps.size ∧
      ((k0 + j ≤ k1 ∧ S w ∧ aE.defers = aF.defers ∧ ∀ w'', Mk0 w w'' → S w'' → wpSoft P ops Q S k1 (k1 - (k0 + j)) aE w'') ∨ (k1 ≤ k0 + j ∧ (∀ i, i < k0 → waits ops ops.size k1 i = true → listed.getD i true = true) ∧ wpList P ops (noPan Q) (ops.toList.drop (k0 + j)) aE w)))

theorem wpAny_s {k0 k1 : Nat} (hok : regOkT ops k0 = true) (hch : chainOk ops k0 = true) (hk01 : k0 ≤ k1) (hk1 : k1 ≤ ops.size) {aF : Act} (hE : ∀ i, i < k0 → StepS_ P ops S aF k0 k1 i)
    (hT : ∀ w, S w → wpSoft P ops Q S k1 (k1 - k0) aF w) :
    ∀ (fuel : Nat) (listed : Array Bool) (a aE : Act) (w : World), listed.size = ops.size → (List.range ops.size).countP (fun i => !listed.getD i true) ≤ fuel →
      Shut ops listed → AgreesT ops k0 listed aE a → PhaseS P ops Q S k0 k1 aF listed aE w → wpAny P .any ops Q fuel listed a w := by
  have key : ∀ (listed : Array Bool) (a aE : Act) (w : World), listed.size = ops.size → AgreesT ops k0 listed aE a → PhaseS P ops Q S k0 k1 aF listed aE w → Region.ready .any ops listed = [] → Q .normal a w := by
    intro listed a aE w hsz hag hph hr
    have hall := all_listed hok hsz hr
    have hae : a = aE := by
      obtain ⟨t1, d1⟩ := a
      obtain ⟨t2, d2⟩ := aE
      have h2 : d2 = d1 := hag.defers
      subst h2
      congr
      refine Array.ext_getElem? fun t => ?_
      exact hag.at_ t fun i o _ ho hl => by rw [hall (i + 1) i (by omega) o ho] at hl; cases hl
    subst hae
    rcases hph with ⟨rfl, hS, hno⟩ | ⟨j, hj, hlate, _, _, _, hwp⟩
    · have hk : k0 = ops.size := by
        rcases Nat.lt_or_ge k0 ops.size with h | h
        · have h1 := hno k0 (Nat.le_refl _) h
          rw [hall (k0 + 1) k0 (by omega) _ (Array.getElem?_eq_getElem h)] at h1
          cases h1
        · omega
      have := hT w hS
      rw [show k1 - k0 = 0 by omega] at this
      unfold wpSoft at this
      rw [List.drop_eq_nil_of_le (by simp; omega)] at this
      exact this
    · have hk : k0 + j = ops.size := by
        rcases Nat.lt_or_ge (k0 + j) ops.size with h | h
        · have h1 := (hlate (k0 + j) (by omega) h).1 (hall (k0 + j + 1) (k0 + j) (by omega) _ (Array.getElem?_eq_getElem h))
          omega
        · omega
      rcases hwp with ⟨h6, hS6, _, hwp⟩ | ⟨_, _, hwp⟩
      · replace hwp := hwp w (Mk.refl _ _ _) hS6
        rw [show k1 - (k0 + j) = 0 by omega] at hwp
        unfold wpSoft at hwp
        rw [List.drop_eq_nil_of_le (by simp; omega)] at hwp
        exact hwp
      · rw [List.drop_eq_nil_of_le (by simp; omega)] at hwp
        exact hwp
  intro fuel
  induction fuel with
  | zero =>
    intro listed a aE w hsz hc hsh hag hph
    have hr : Region.ready .any ops listed = [] := by
      rw [List.eq_nil_iff_forall_not_mem]
      intro i hi
      obtain ⟨hl, o, ho, _⟩ := mem_ready.1 hi
      have h0 : (List.range ops.size).countP (fun i => !listed.getD i true) = 0 := by omega
      rw [List.countP_eq_zero] at h0
      have := h0 i (List.mem_range.2 (Array.getElem?_eq_some_iff.1 ho).1)
      simp [hl] at this
    exact ⟨hr, key listed a aE w hsz hag hph hr⟩
  | succ fuel ih =>
    intro listed a aE w hsz hc hsh hag hph
    refine ⟨key listed a aE w hsz hag hph, fun i hi => ?_⟩
    obtain ⟨hl, o, ho, hdone⟩ := mem_ready.1 hi
    have hio := (Array.getElem?_eq_some_iff.1 ho).1
    have hil : i < listed.size := by omega
    obtain ⟨q1, q2, q3⟩ := regOkT_at hok ho
    -- what does not hang on which kind of operation came up
    have hset : ∀ j, j ≠ i → (listed.setIfInBounds i true).getD j true = listed.getD j true := fun j hj => getD_set_ne true (Ne.symm hj)
    have hseti : (listed.setIfInBounds i true).getD i true = true := by simp [Array.getD, hil]
    have hsz' : (listed.setIfInBounds i true).size = ops.size := by simpa using hsz
    have hc' : (List.range ops.size).countP (fun j => !(listed.setIfInBounds i true).getD j true) ≤ fuel := by
      have := countP_lt (p := fun j => !listed.getD j true) (p' := fun j => !(listed.setIfInBounds i true).getD j true) (i := i)
        (fun j hj => by
          by_cases hji : j = i
          · subst hji; rw [hseti] at hj; cases hj
          · rw [hset j hji] at hj; exact hj) (by simp [hl]) (by simp [Array.getD, hil]) _ (List.mem_range.2 hio)
      omega
    have hsh' : Shut ops (listed.setIfInBounds i true) := by
      intro q oq hoq hlq e he hb
      have hq := (Array.getElem?_eq_some_iff.1 hoq).1
      rw [getD_tf (by omega)] at hlq
      have hmono : listed.getD e.on false = true → (listed.setIfInBounds i true).getD e.on false = true := fun h => getD_set_true h
      by_cases hqi : q = i
      · subst hqi
        rw [ho] at hoq
        injection hoq with hoq
        subst hoq
        exact hmono (hdone e he hb)
      · rw [hset q hqi] at hlq
        exact hmono (hsh q oq hoq (by rw [getD_tf (by omega)]; exact hlq) e he hb)
    have hseen : ∀ t ∈ o.looksAt ops, ∀ q oq, ops[q]? = some oq → oq.dst = some t → (q < i ∧ listed.getD q true = true) ∨ (k0 ≤ q ∧ listed.getD q true = false) := fun t ht q oq hoq hdq => by
      by_cases hqi : q = i
      · subst hqi
        rw [ho] at hoq
        injection hoq with hoq
        subst hoq
        exact absurd ht (q2 t hdq)
      · rcases (q3 q oq t hqi hoq hdq).2 ht with ⟨e, he, hb, heq⟩ | ⟨_, h6, h7⟩
        · have h1 := hdone e he hb
          have h2 := q1 e he hb
          rw [heq] at h1 h2
          rw [getD_tf (by omega)] at h1
          exact .inl ⟨h2, h1⟩
        · refine .inr ⟨h6, ?_⟩
          have hqs := (Array.getElem?_eq_some_iff.1 hoq).1
          cases hlq : listed.getD q true with
          | false => rfl
          | true =>
            have := waits_listed hsh ops.size q i h7 fun o' ho' => hsh q o' ho' (by rw [getD_tf (by omega)]; exact hlq)
            rw [getD_tf (by omega), hl] at this
            cases this
    have hlook : ∀ t ∈ o.looksAt ops, a.tmps[t]? = aE.tmps[t]? := fun t ht => hag.at_ t fun q oq hqk hoq hlq hdq => by
      rcases hseen t ht q oq hoq hdq with ⟨_, h6⟩ | ⟨h6, _⟩
      · rw [h6] at hlq
        cases hlq
      · omega
    unfold wpOp
    simp only [ho]
    by_cases hik : i < k0
    · -- an early one
      obtain ⟨v, hdst, hcase⟩ := hE i hik o ho
      have hEF : ∀ t, (∀ q oq, k0 ≤ q → ops[q]? = some oq → listed.getD q true = true → oq.dst ≠ some t) → aE.tmps[t]? = aF.tmps[t]? := by
        intro t ht
        rcases hph with ⟨rfl, _⟩ | ⟨_, _, _, _, h, _⟩
        · rfl
        · exact h t ht
      have hsE : aE.tmps.size = aF.tmps.size := by
        rcases hph with ⟨rfl, _⟩ | ⟨_, _, _, _, _, h, _⟩
        · rfl
        · exact h
      have hlookF : ∀ t ∈ o.looksAt ops, a.tmps[t]? = aF.tmps[t]? := fun t ht => (hlook t ht).trans (hEF t fun q oq hq hoq hlq hdq => by
        rcases hseen t ht q oq hoq hdq with ⟨h6, _⟩ | ⟨_, h6⟩
        · omega
        · rw [h6] at hlq
          cases hlq)
      obtain ⟨hev, hw⟩ := same_exec hok ho hlookF
      have next : ∀ u w', (∀ d, o.dst = some d → d < aF.tmps.size → aF.tmps[d]? = some u) → PhaseS P ops Q S k0 k1 aF (listed.setIfInBounds i true) aE w' → wpAny P .any ops Q fuel (listed.setIfInBounds i true) (a.put o.dst u) w' := by
        intro u w' hu hph'
        refine ih _ _ aE _ hsz' hc' hsh' ⟨?_, ?_, fun t ht => ?_⟩ hph'
        · rw [put_size]; exact hag.size
        · rw [put_defers]; exact hag.defers
        · by_cases hdt : o.dst = some t
          · have hlt := hu t hdt
            rw [hEF t fun q oq hq hoq _ hdq => (q3 q oq t (by omega) hoq hdq).1 hdt, hdt]
            simp only [Act.put]
            rw [Array.getElem?_setIfInBounds, if_pos rfl]
            have hs2 := hag.size
            split
            · rename_i hs
              exact (hlt (show t < aF.tmps.size by rw [← hsE, ← hs2]; exact hs)).symm
            · rename_i hs
              exact (Array.getElem?_eq_none (xs := aF.tmps) (show aF.tmps.size ≤ t by rw [← hsE, ← hs2]; exact Nat.le_of_not_lt hs)).symm
          · rw [put_other hdt]
            refine hag.at_ t fun q oq hq hoq hlq => ?_
            by_cases hqi : q = i
            · subst hqi
              rw [ho] at hoq
              injection hoq with hoq
              subst hoq
              exact hdt
            · exact ht q oq hq hoq (by rw [hset q hqi]; exact hlq)
      have hph1 : PhaseS P ops Q S k0 k1 aF (listed.setIfInBounds i true) aE w := by
        rcases hph with ⟨h1, h2, h3⟩ | ⟨j, hj, h1, h2, h3⟩
        · exact .inl ⟨h1, h2, fun q hq hqs => by rw [hset q (by omega)]; exact h3 q hq hqs⟩
        · exact .inr ⟨j, hj, fun q hq hqs => by rw [hset q (by omega)]; exact h1 q hq hqs, trivial, (fun t ht => h3.1 t fun q oq hq hoq hlq => ht q oq hq hoq (by rw [hset q (by omega)]; exact hlq)), h3.2.1, h3.2.2.imp id fun h6 => ⟨h6.1, fun q hq hwq => by
            by_cases hqi : q = i
            · subst hqi; exact hseti
            · rw [hset q hqi]; exact h6.2.1 q hq hwq, h6.2.2⟩⟩
      rcases hcase with ⟨hw1, hrun | ⟨hwt, hld⟩ | ⟨hwt, hwp⟩⟩ | ⟨hw1, rfl⟩
      · rw [hw, hw1, if_pos rfl]
        refine .inl ?_
        unfold Oper.wp
        rw [hev, hrun w]
        exact next v w hdst hph1
      · rw [hw, hw1, if_pos rfl]
        refine .inl ?_
        have hSw : S w := by
          rcases hph with ⟨_, hS, _⟩ | ⟨j, hj, h1, h2, h3, h4, h6 | h6⟩
          · exact hS
          · exact h6.2.1
          · rw [h6.2.1 i hik hwt] at hl
            cases hl
        unfold Oper.wp
        rw [hev, hld w hSw]
        exact next v w hdst hph1
      · rw [hw, hw1, if_pos rfl]
        refine .inl ?_
        rcases hph with ⟨hEq, hS, h3⟩ | ⟨j, hj, h1, h2, h3, h4, h6 | h6⟩
        · have h4 := hwp w hS
          unfold Oper.wp at *
          rw [hev]
          refine upon_transfer (aF := aF) (S := fun w' => S w' ∧ Mk0 w w') (fun u w' hu hS' => next u w' (put_eq_iff.1 hu) ?_) (by rw [← hEq]; exact hag.defers) h4
          exact .inl ⟨hEq, hS'.1, fun q hq hqs => by rw [hset q (by omega)]; exact h3 q hq hqs⟩
        · have h7 := hwp w h6.2.1
          unfold Oper.wp at *
          rw [hev]
          refine upon_transfer (aF := aF) (S := fun w' => S w' ∧ Mk0 w w') (fun u w' hu hS' => next u w' (put_eq_iff.1 hu) ?_) (by rw [← h6.2.2.1]; exact hag.defers) h7
          exact .inr ⟨j, hj, fun q hq hqs => by rw [hset q (by omega)]; exact h1 q hq hqs, trivial, fun t ht => h3 t fun q oq hq hoq hlq => ht q oq hq hoq (by rw [hset q (by omega)]; exact hlq), h4, .inl ⟨h6.1, hS'.1, h6.2.2.1, fun w'' m hS'' => h6.2.2.2 w'' (hS'.2.trans m) hS''⟩⟩
        · rw [h6.2.1 i hik hwt] at hl
          cases hl
      · rw [hw, hw1, if_neg (by decide)]
        exact next undef w hdst hph1
    · -- a late one
      have hki : k0 ≤ i := by omega
      have hB : ∃ j, k0 + j = i ∧ (∀ q, k0 ≤ q → q < ops.size → (listed.getD q true = true ↔ q < k0 + j)) ∧ True ∧
          (∀ t, (∀ q oq, k0 ≤ q → ops[q]? = some oq → listed.getD q true = true → oq.dst ≠ some t) → aE.tmps[t]? = aF.tmps[t]?) ∧ aE.tmps.size = aF.tmps.size ∧
          ((k0 + j < k1 ∧ aE.defers = aF.defers ∧ wpSoft P ops Q S k1 (k1 - (k0 + j)) aE w) ∨ (k1 ≤ k0 + j ∧ (∀ q, q < k0 → waits ops ops.size k1 q = true → listed.getD q true = true) ∧ wpList P ops (noPan Q) (ops.toList.drop (k0 + j)) aE w)) := by
        have hw1 : i = k1 → ∀ q, q < k0 → waits ops ops.size k1 q = true → listed.getD q true = true := fun hik1 q hq hwq => by
          subst hik1
          have := waits_listed hsh ops.size i q hwq fun o' ho' => by
            rw [ho] at ho'
            injection ho' with ho'
            subst ho'
            exact hdone
          rwa [getD_tf (by omega)] at this
        have hprev : k0 < i → listed.getD (i - 1) true = true := fun h => by
          obtain ⟨e, he, hb, heq⟩ := chainOk_at hch ho h
          have := hdone e he hb
          rw [heq, getD_tf (by omega)] at this
          exact this
        rcases hph with ⟨rfl, hS, h3⟩ | ⟨j, hj, h1, h2, h3, h4, h5⟩
        · have hi0 : i = k0 := by
            rcases Nat.lt_or_ge k0 i with h | h
            · have := hprev h
              rw [h3 (i - 1) (by omega) (by omega)] at this
              cases this
            · omega
          subst hi0
          refine ⟨0, rfl, fun q hq hqs => ⟨(fun h => by rw [h3 q hq hqs] at h; cases h), (fun h => by omega)⟩, trivial, fun _ _ => rfl, rfl, ?_⟩
          · have h7 := hT w hS
            rcases Nat.lt_or_ge i k1 with h | h
            · exact .inl ⟨h, rfl, h7⟩
            · refine .inr ⟨h, hw1 (by omega), ?_⟩
              rw [show k1 - i = 0 by omega] at h7
              unfold wpSoft at h7
              rw [show i + 0 = k1 by omega]
              exact h7
        · have e1 : ¬ i < k0 + j := fun h => by
            rw [(h1 i hki hio).2 h] at hl
            cases hl
          have hji : k0 + j = i := by
            rcases Nat.lt_or_ge (k0 + j) i with h | h
            · have := (h1 (i - 1) (by omega) (by omega)).1 (hprev (by omega))
              omega
            · omega
          refine ⟨j, hji, h1, h2, h3, h4, ?_⟩
          rcases h5 with ⟨h6, hSw, hdf, h7⟩ | h6
          · rcases Nat.lt_or_ge (k0 + j) k1 with h | h
            · exact .inl ⟨h, hdf, h7 w (Mk.refl _ _ _) hSw⟩
            · refine .inr ⟨h, hw1 (by omega), ?_⟩
              replace h7 := h7 w (Mk.refl _ _ _) hSw
              rw [show k1 - (k0 + j) = 0 by omega] at h7
              unfold wpSoft at h7
              rw [show k0 + j = k1 by omega]
              exact h7
          · exact .inr h6
      obtain ⟨j, rfl, h1, h2, h3, h4, h5⟩ := hB
      have hdrop : ops.toList.drop (k0 + j) = o :: ops.toList.drop (k0 + (j + 1)) := by
        have hlt : k0 + j < ops.toList.length := by simpa using hio
        rw [List.drop_eq_getElem_cons hlt]
        have : ops.toList[k0 + j] = o := by
          have := (Array.getElem?_eq_some_iff.1 ho).2
          simpa using this
        rw [this]
        rfl
      obtain ⟨hev, hw⟩ := same_exec hok ho hlook
      have next : ∀ ds u w', ((k0 + (j + 1) ≤ k1 ∧ S w' ∧ ({ aE with defers := ds }.put o.dst u).defers = aF.defers ∧ ∀ w'', Mk0 w' w'' → S w'' → wpSoft P ops Q S k1 (k1 - (k0 + (j + 1))) ({ aE with defers := ds }.put o.dst u) w'') ∨ (k1 ≤ k0 + j ∧ (∀ q, q < k0 → waits ops ops.size k1 q = true → listed.getD q true = true) ∧ wpList P ops (noPan Q) (ops.toList.drop (k0 + (j + 1))) ({ aE with defers := ds }.put o.dst u) w')) → wpAny P .any ops Q fuel (listed.setIfInBounds (k0 + j) true) ({ a with defers := ds }.put o.dst u) w' := by
        intro ds u w' hwl
        refine ih _ _ ({ aE with defers := ds }.put o.dst u) _ hsz' hc' hsh' ⟨?_, ?_, fun t ht => ?_⟩ (.inr ⟨j + 1, by omega, fun q hq hqs => ?_, trivial, fun t ht => ?_, ?_, hwl.imp id fun h6 => ⟨by omega, fun q hq hwq => by rw [hset q (by omega)]; exact h6.2.1 q hq hwq, h6.2.2⟩⟩)
        · rw [put_size, put_size]; exact hag.size
        · rw [put_defers, put_defers]
        · by_cases hdt : o.dst = some t
          · rw [hdt]
            have hs2 := hag.size
            simp only [Act.put]
            rw [Array.getElem?_setIfInBounds, Array.getElem?_setIfInBounds, if_pos rfl, if_pos rfl, hs2]
          · rw [put_other hdt, put_other hdt]
            exact hag.at_ t fun q oq hq hoq hlq => ht q oq hq hoq (by rw [hset q (by omega)]; exact hlq)
        · by_cases hqi : q = k0 + j
          · subst hqi; rw [hseti]; simp
          · rw [hset q hqi, h1 q hq hqs]; omega
        · rw [put_other (ht _ o (by omega) ho hseti)]
          exact h3 t fun q oq hq hoq hlq => ht q oq hq hoq (by
            by_cases hqi : q = k0 + j
            · subst hqi; exact hseti
            · rw [hset q hqi]; exact hlq)
        · rw [put_size]; exact h4
      rcases h5 with ⟨hlt, hdf, h5⟩ | ⟨hge, hall1, h5⟩
      · obtain ⟨n, hn⟩ : ∃ n, k1 - (k0 + j) = n + 1 := ⟨k1 - (k0 + j) - 1, by omega⟩
        rw [hn] at h5
        unfold wpSoft at h5
        obtain ⟨o', ho', hw', h5⟩ := h5
        rw [show k1 - (n + 1) = k0 + j by omega, ho] at ho'
        injection ho' with ho'
        subst ho'
        rw [hw, hw', if_pos rfl]
        refine .inl ?_
        unfold Oper.wp at *
        rw [hev]
        exact upon_two hag.defers (fun ds u w' h6 => next ds u w' (.inl ⟨by omega, h6.2.1, h6.1.trans hdf, by rw [show k1 - (k0 + (j + 1)) = n by omega]; exact h6.2.2⟩)) h5
      rw [hdrop] at h5
      unfold wpList at h5
      rw [hw]
      split at h5
      · rename_i hwv
        rw [if_pos hwv]
        rcases h5 with h5 | ⟨hasks, hlets⟩
        · refine .inl ?_
          unfold Oper.wp at *
          rw [hev]
          exact upon_two hag.defers (fun ds u w' h6 => next ds u w' (.inr ⟨hge, hall1, h6⟩)) h5
        · refine .inr ⟨?_, letsOut_noPan hlets⟩
          unfold Oper.asks at *
          rw [hev]
          exact hasks
      · rename_i hwv
        rw [if_neg hwv]
        have := fun h6 => next a.defers undef w (.inr ⟨hge, hall1, h6⟩)
        have hd := hag.defers
        obtain ⟨t1, d1⟩ := a
        obtain ⟨t2, d2⟩ := aE
        have hd' : d2 = d1 := hd
        subst hd'
        exact this h5

/-- The beginning: k0 early operations, then the late ones in their order. -/
theorem wp_region_wks {id : Nat} {a : Act} {w : World} {Q : Exit → Act → World → Prop} (S : World → Prop) (k0 k1 : Nat) (hm : P.follows .mixedOrders = true) (hok : regOkT ops k0 = true) (hch : chainOk ops k0 = true) (hk01 : k0 ≤ k1) (hk1 : k1 ≤ ops.size) (hS : S w.drew)
    (h : WkS P ops (wpSoft P ops Q S k1 (k1 - k0)) S k0 k1 k0 0 a) : (Code.region id ops true).wp P Q a w := by
  obtain ⟨aF, h1, h2, h3, h4, h5⟩ := wks_out hok k0 0 a (by omega) h
  refine wp_region_any hm (wpAny_s hok hch hk01 hk1 (fun i hi => h1 i (Nat.zero_le _) (by omega)) h2 ops.size _ a aF _ (by simp) ?_ ?_ ⟨h3.symm, h4, fun t ht => (h5 t fun i o _ hi ho => ht i o (by omega) ho ?_).symm⟩ (.inl ⟨rfl, hS, fun i _ hi => ?_⟩))
  · exact Nat.le_trans List.countP_le_length (by simp)
  · intro i o ho hl
    simp [Array.getD] at hl
  · have := (Array.getElem?_eq_some_iff.1 ho).1
    simp [Array.getD, this]
  · simp [Array.getD, hi]
end
end Go.Proofs.Ytoicmmandniagaa
