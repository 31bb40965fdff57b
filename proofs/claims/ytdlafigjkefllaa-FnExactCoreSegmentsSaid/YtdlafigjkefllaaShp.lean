
/- What may be written stays so, whatever is written. -/
import Derived.Test.YtdlafigjkefllaaRow
namespace Go.Proofs.Ytdlafigjkefllaa
open Go Go.RowKit
set_option linter.unusedVariables false
/-- What lay there and could be written lies there and can be. -/
def Shp (w w' : World) : Prop := ∀ b o v, w.cell? ⟨b, o, none⟩ = some v → w.frozen? ⟨b, o, none⟩ = false → (∃ v', w'.cell? ⟨b, o, none⟩ = some v') ∧ w'.frozen? ⟨b, o, none⟩ = false
theorem Shp.refl (w : World) : Shp w w := fun _ _ _ h f => ⟨⟨_, h⟩, f⟩
theorem Shp.trans {w w' w'' : World} (h : Shp w w') (k : Shp w' w'') : Shp w w'' := fun b o v hv hf => by
  obtain ⟨⟨v', h1⟩, h2⟩ := h b o v hv hf
  exact k b o v' h1 h2
theorem Shp.set (w : World) (p : Addr) (u : Value) : Shp w (w.setCell p u) := fun b o v hv hf => by
  refine ⟨?_, by rw [World.frozen?_setCell]; exact hf⟩
  by_cases e : p = ⟨b, o, none⟩
  · subst e; exact ⟨u, World.cell?_setCell_same _ _ _ hv⟩
  · exact ⟨v, by rw [World.cell?_setCell_other _ _ _ _ e]; exact hv⟩
theorem Shp.mk {w w' : World} (m : Mk0 w w') : Shp w w' := fun _ _ _ hv hf => ⟨⟨_, m.cellAt hv⟩, m.frozenAt hv hf⟩
theorem Fill.shp {w w' : World} {b off n : Nat} {f : Nat → Value} (h : Fill w b off n 0 f) (s : Shp w w') : Fill w' b off n 0 f := fun j hj => by
  obtain ⟨v, h1, h2, _⟩ := h j hj
  obtain ⟨⟨v', h3⟩, h4⟩ := s _ _ _ h1 h2
  exact ⟨v', h3, h4, fun hlt => absurd hlt (by omega)⟩
end Go.Proofs.Ytdlafigjkefllaa
