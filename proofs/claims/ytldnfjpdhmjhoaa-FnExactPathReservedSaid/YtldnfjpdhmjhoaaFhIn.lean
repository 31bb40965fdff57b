
/- The region of XFh inside an iterator's round. -/
import Derived.Test.YtldnfjpdhmjhoaaFh
import Derived.OrdersIn
import Derived.RangeFuncCalls
namespace Go.Proofs.Ytldnfjpdhmjhoaa
open Go
set_option linter.unusedVariables false
def noDef (ops : Array Oper) : Bool := ops.all fun o => match o.op with | .defer _ => false | _ => true
section
variable {P : Program} {ops : Array Oper} {Q : Exit → Act → World → Prop} {G : Type} {S : G → World → Prop} {F : G → Nat → (Nat → Value) → World → Prop} {X : G → World → G → World → Prop}
theorem noDef_at {i : Nat} {o : Oper} (h : noDef ops = true) (ho : ops[i]? = some o) : ∀ c, o.op ≠ .defer c := by
  intro c e
  obtain ⟨hi, rfl⟩ := Array.getElem?_eq_some_iff.1 ho
  unfold noDef at h
  rw [Array.all_eq_true] at h
  have := h i hi
  rw [e] at this
  cases this
theorem uponIn_of_upon {l n : Nat} {o : Oper} {a : Act} {K K' : Act → World → Prop} {r : Result Next} (hK : ∀ a w, K a w → K' a w) (h : o.upon P a K (noPan Q) r) : o.uponIn (Fence.wide.inRound l) n P a K' Q r := by
  cases r with
  | ok x w =>
    cases x with
    | value v => exact hK _ _ h
    | skip => exact hK _ _ h
    | defer d => exact hK _ _ h
    | enter f args =>
      refine ⟨fun hd => (by cases hd), ((callsIn_wide.2 h).inRound l).mono fun e w' he => ?_⟩
      cases e with
      | returned v => exact hK _ _ he
      | panicked c => exact (he : False).elim
      | outgrown => exact he
    | row rw_ args =>
      refine ⟨fun hd => (by cases hd), fun c cs _ => ?_⟩
      obtain ⟨v, w', hr, hs⟩ := (show Rows P rw_ args w fun v w'' => K (a.put o.dst v) w'' from h) c cs
      exact ⟨v, w', hK _ _ hr, stepsIn_wide.2 hs⟩
    | _ => exact (h : False).elim
  | halt x w =>
    cases x with
    | panic v => exact (h : False).elim
    | _ => exact (h : False).elim
theorem wpAnyIn_of_wpAny {l n : Nat} {md : Region.Mode} (hout : ¬ LetsOut Q) (hnd : noDef ops = true) : ∀ (fuel : Nat) (listed : Array Bool) (a : Act) (w : World), wpAny P md ops (noPan Q) fuel listed a w → wpAnyIn (Fence.wide.inRound l) n P md ops Q fuel listed a w
  | 0, _, _, _, h => h
  | fuel + 1, listed, a, w, h => by
    refine ⟨h.1, fun i hi => ?_⟩
    have h1 := h.2 i hi
    unfold wpOp at h1
    unfold wpOpIn
    split
    · rename_i hn
      rw [hn] at h1
      exact wpAnyIn_of_wpAny hout hnd fuel _ _ _ h1
    · rename_i o ho
      rw [ho] at h1
      simp only at h1
      split
      · rename_i hw
        rw [if_pos hw] at h1
        rcases h1 with h1 | ⟨_, h1⟩
        · exact ⟨fun f _ => trivial, by rw [Oper.semAt_eq _ _ _ (noDef_at hnd ho)]; exact uponIn_of_upon (fun a w => wpAnyIn_of_wpAny hout hnd fuel _ a w) h1⟩
        · exact absurd (letsOut_noPan h1) hout
      · rename_i hw
        rw [if_neg hw] at h1
        exact ⟨fun f _ => trivial, wpAnyIn_of_wpAny hout hnd fuel _ _ _ h1⟩
theorem wpIn_region_fh {l n : Nat} {id : Nat} {a : Act} {w : World} {Q : Exit → Act → World → Prop} (S : G → World → Prop) (F : G → Nat → (Nat → Value) → World → Prop) (X : G → World → G → World → Prop) (g : G) (sp : Nat → Nat → Bool) (lz kt : Nat) (hout : ¬ LetsOut Q) (hnd : noDef ops = true) (hm : P.follows .mixedOrders = true) (hok : regOkT ops ops.size = true) (hsp : spOk sp ops = true) (hkt : kt ≤ ops.size) (hlz : lz < kt ∨ ops.size ≤ lz) (htl : tailOkZ ops kt lz = true)
    (hfr : lz < kt → Region.free .any ops (lstz ops.size kt lz) lz = true)
    (hmono : ∀ g g' k v w w', F g k v w → X g w g' w' → F g' k v w') (hS : S g w.drew)
    (h : WkH sp P ops (wpAny P .any ops (noPan Q) (ops.size - kt) (lst ops.size kt)) S F X lz kt kt 0 a) : (Code.region id ops true).wpIn (Fence.wide.inRound l) n P Q a w := by
  refine wpIn_region_any hm (wpAnyIn_of_wpAny hout hnd _ _ _ _ (wpAny_h hok hsp hkt hlz htl hfr (fun _ _ _ _ _ h => (h : False).elim) hmono h ops.size _ a _ g (by simp) ?_ ?_ ?_ ⟨rfl, rfl, fun t _ => rfl⟩ hS ?_))
  · rw [List.countP_eq_length.2]
    · simp
    · intro i hi
      have := List.mem_range.1 hi
      simp [Array.getD, this]
  · intro i o ho hl
    simp [Array.getD] at hl
  · intro i _ hi
    simp [Array.getD, hi]
  · intro j hj hl
    have : j < ops.size := by omega
    simp [Array.getD, this] at hl
end
end Go.Proofs.Ytldnfjpdhmjhoaa
