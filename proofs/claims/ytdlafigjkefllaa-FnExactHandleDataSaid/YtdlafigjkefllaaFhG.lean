
/- A drawn region by facts: steps that stand behind a guard that is struck. -/
import Derived.Test.YtdlafigjkefllaaFh
namespace Go.Proofs.Ytdlafigjkefllaa
open Go
set_option linter.unusedVariables false
section
variable {P : Program} {ops : Array Oper} {G : Type} {sp : Nat → Nat → Bool} {S : G → World → Prop} {F : G → Nat → (Nat → Value) → World → Prop} {X : G → World → G → World → Prop} {T : Act → World → Prop} {lz kt m k : Nat} {a : Act} {o : Oper}
theorem WkH.valueG {d : Tmp} (hz : k ≠ lz) (ho : ops[k]? = some o) (hd : o.dst = some d) (hlt : d < a.tmps.size) (hg : ∀ g w, S g w → (∀ j, edgeB o j = true → F g j (vk sp ops a j) w) → Region.wanted o (yielded ops a.tmps) = true)
    (hv : ∀ g w, S g w → (∀ j, edgeB o j = true → F g j (vk sp ops a j) w) → ∃ v w' g', (execOp a.eval o).run P w = .ok (.value v) w' ∧ S g' w' ∧ X g w g' w' ∧ F g' k (vk sp ops (a.put o.dst v) k) w')
    (h : ∀ v, WkH sp P ops T S F X lz kt m (k + 1) (a.put o.dst v)) : WkH sp P ops T S F X lz kt (m + 1) k a :=
  ⟨o, ho, ⟨fun g w hS hF => ⟨hg g w hS hF, by
    obtain ⟨v, w', g', he, hS', hM, hF'⟩ := hv g w hS hF
    unfold Oper.wp
    rw [he]
    exact ⟨by cases o.dst <;> rfl, g', hS', hM, v, rfl, hF'⟩⟩, fun e => absurd e hz⟩, h⟩
theorem WkH.callG {d : Tmp} (hz : k ≠ lz) (ho : ops[k]? = some o) (hd : o.dst = some d) (hlt : d < a.tmps.size) (hg : ∀ g w, S g w → (∀ j, edgeB o j = true → F g j (vk sp ops a j) w) → Region.wanted o (yielded ops a.tmps) = true)
    (hv : ∀ g w, S g w → (∀ j, edgeB o j = true → F g j (vk sp ops a j) w) → ∃ f args, (execOp a.eval o).run P w = .ok (.enter f args) w ∧ Calls P f args w fun e w' => ∃ v g', e = .returned v ∧ S g' w' ∧ X g w g' w' ∧ F g' k (vk sp ops (a.put o.dst v) k) w')
    (h : ∀ v, WkH sp P ops T S F X lz kt m (k + 1) (a.put o.dst v)) : WkH sp P ops T S F X lz kt (m + 1) k a :=
  ⟨o, ho, ⟨fun g w hS hF => ⟨hg g w hS hF, by
    obtain ⟨f, args, he, hc⟩ := hv g w hS hF
    unfold Oper.wp
    rw [he]
    refine Calls.mono hc ?_
    rintro e w' ⟨v, g', rfl, hS', hM, hF'⟩
    exact ⟨by cases o.dst <;> rfl, g', hS', hM, v, rfl, hF'⟩⟩, fun e => absurd e hz⟩, h⟩
end
end Go.Proofs.Ytdlafigjkefllaa
