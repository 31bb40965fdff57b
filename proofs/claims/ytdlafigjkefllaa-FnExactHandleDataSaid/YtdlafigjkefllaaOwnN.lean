
/- Rows of one's own whose elements lead to rows of one's own, each in a range of its own: the heads are a flat row, what they lead to stands beside. -/
import Derived.Test.YtdlafigjkefllaaAppR
namespace Go.Proofs.Ytdlafigjkefllaa
open Go Go.RowKit
set_option linter.unusedVariables false
/-- A kind of element: the head's cells, and what the head leads to (in the blocks from lo to hi). -/
structure Kd (η α : Type) [Inhabited η] [Inhabited α] where
  nc : Nat
  pos : 0 < nc
  cell : η → Nat → Value
  kid : World → Nat → Nat → η → α → Prop
  kid_mk : ∀ {lo hi lo' hi' : Nat} {w w' : World} {g : η} {x : α}, kid w lo hi g x → Mk lo' hi' w w' → hi ≤ w.heap.size → (hi ≤ lo' ∨ hi' ≤ lo ∨ hi' ≤ lo') → kid w' lo hi g x
  kid_set : ∀ {lo hi : Nat} {w : World} {g : η} {x : α}, kid w lo hi g x → ∀ (p : Addr) (u : Value), (p.block < lo ∨ hi ≤ p.block) → kid (w.setCell p u) lo hi g x
  kid_wide : ∀ {lo hi lo' hi' : Nat} {w : World} {g : η} {x : α}, kid w lo hi g x → lo' ≤ lo → hi ≤ hi' → kid w lo' hi' g x
def Apart (l h : Nat → Nat) (n : Nat) : Prop := ∀ i j, i < n → j < n → i ≠ j → h i ≤ l j ∨ h j ≤ l i
/-- The kids of n heads: each in a range of its own within lo to hi, apart from the blocks of q. -/
def Kids {η α : Type} [Inhabited η] [Inhabited α] (K : Kd η α) (w : World) (lo hi : Nat) (q : Nat → Prop) (n : Nat) (gs : List η) (ts : List α) : Prop :=
  ∃ l h : Nat → Nat, Apart l h n ∧ ∀ i, i < n → lo ≤ l i ∧ l i ≤ h i ∧ h i ≤ hi ∧ (∀ b, q b → b < l i ∨ h i ≤ b) ∧ K.kid w (l i) (h i) (gs.getD i default) (ts.getD i default)
def OwnN {η α : Type} [Inhabited η] [Inhabited α] (K : Kd η α) (w : World) (lo hi : Nat) (a : Option Addr) (n : Nat) (ts : List α) : Prop :=
  ts.length = n ∧ ∃ (gs : List η) (b : Nat), OwnR K.nc K.cell w b (b + 1) a n gs ∧ (0 < n → lo ≤ b ∧ b < hi) ∧ Kids K w lo hi (fun q => 0 < n ∧ q = b) n gs ts
section
variable {η α : Type} [Inhabited η] [Inhabited α] {K : Kd η α} {w w' : World} {lo hi n : Nat} {a : Option Addr} {gs : List η} {ts : List α} {q : Nat → Prop}
theorem Kids.mk {lo' hi' : Nat} (h : Kids K w lo hi q n gs ts) (hm : Mk lo' hi' w w') (hB : hi ≤ w.heap.size) (hr : hi ≤ lo' ∨ hi' ≤ lo ∨ hi' ≤ lo') : Kids K w' lo hi q n gs ts := by
  obtain ⟨l, r, ha, hk⟩ := h
  refine ⟨l, r, ha, fun i hi => ?_⟩
  obtain ⟨h1, h2, h3, h4, h5⟩ := hk i hi
  exact ⟨h1, h2, h3, h4, K.kid_mk h5 hm (by omega) (by omega)⟩
theorem Kids.set (h : Kids K w lo hi q n gs ts) (p : Addr) (u : Value) (hp : q p.block ∨ p.block < lo ∨ hi ≤ p.block) : Kids K (w.setCell p u) lo hi q n gs ts := by
  obtain ⟨l, r, ha, hk⟩ := h
  refine ⟨l, r, ha, fun i hi => ?_⟩
  obtain ⟨h1, h2, h3, h4, h5⟩ := hk i hi
  refine ⟨h1, h2, h3, h4, K.kid_set h5 p u ?_⟩
  rcases hp with hp | hp
  · exact h4 _ hp
  · omega
theorem Kids.wide {lo' hi' : Nat} (h : Kids K w lo hi q n gs ts) (hl : lo' ≤ lo) (hh : hi ≤ hi') : Kids K w lo' hi' q n gs ts := by
  obtain ⟨l, r, ha, hk⟩ := h
  refine ⟨l, r, ha, fun i hi => ?_⟩
  obtain ⟨h1, h2, h3, h4, h5⟩ := hk i hi
  exact ⟨by omega, h2, by omega, h4, h5⟩
theorem Kids.avoid {q' : Nat → Prop} (h : Kids K w lo hi q n gs ts) (hq : ∀ b, q' b → q b ∨ b < lo ∨ hi ≤ b) : Kids K w lo hi q' n gs ts := by
  obtain ⟨l, r, ha, hk⟩ := h
  refine ⟨l, r, ha, fun i hi => ?_⟩
  obtain ⟨h1, h2, h3, h4, h5⟩ := hk i hi
  refine ⟨h1, h2, h3, fun b hb => ?_, h5⟩
  rcases hq b hb with hb | hb
  · exact h4 b hb
  · omega
theorem Kids.none_ (K : Kd η α) (w : World) (lo hi : Nat) (q : Nat → Prop) (gs : List η) (ts : List α) : Kids K w lo hi q 0 gs ts := ⟨fun _ => 0, fun _ => 0, fun i j h => by omega, fun i h => by omega⟩
theorem getD_snoc_lt {β : Type} [Inhabited β] {l : List β} {x : β} {i : Nat} (h : i < l.length) : (l ++ [x]).getD i default = l.getD i default := by
  simp only [List.getD_eq_getElem?_getD, List.getElem?_append_left h]
theorem getD_snoc_eq {β : Type} [Inhabited β] {l : List β} {x : β} {n : Nat} (h : l.length = n) : (l ++ [x]).getD n default = x := by
  subst h
  simp [List.getD_eq_getElem?_getD]
/-- One more: its kid lies in lo2 to hi2, behind or ahead of all others. -/
theorem Kids.snoc {lo2 hi2 : Nat} {g : η} {x : α} (h : Kids K w lo hi q n gs ts) (hg : gs.length = n) (ht : ts.length = n) (h1 : lo ≤ lo2) (h12 : lo2 ≤ hi2) (hx : K.kid w lo2 hi2 g x) (hf : hi ≤ lo2) (hq : ∀ b, q b → b < lo2 ∨ hi2 ≤ b) : Kids K w lo hi2 q (n + 1) (gs ++ [g]) (ts ++ [x]) := by
  obtain ⟨l, r, ha, hk⟩ := h
  refine ⟨fun i => if i = n then lo2 else l i, fun i => if i = n then hi2 else r i, fun i j hi' hj' hij => ?_, fun i hi' => ?_⟩
  · by_cases e1 : i = n
    · have e2 : j ≠ n := by omega
      simp only [e1, e2, if_true, if_false]
      have := hk j (by omega)
      right; omega
    · by_cases e2 : j = n
      · simp only [e1, e2, if_true, if_false]
        have := hk i (by omega)
        left; omega
      · simp only [e1, e2, if_false]
        exact ha i j (by omega) (by omega) hij
  · by_cases e : i = n
    · subst e
      simp only [if_true]
      rw [getD_snoc_eq hg, getD_snoc_eq ht]
      exact ⟨h1, h12, Nat.le_refl _, hq, hx⟩
    · simp only [e, if_false]
      obtain ⟨g1, g2, g3, g4, g5⟩ := hk i (by omega)
      rw [getD_snoc_lt (by omega), getD_snoc_lt (by omega)]
      exact ⟨g1, g2, by omega, g4, g5⟩
theorem OwnN.mk {lo' hi' : Nat} (h : OwnN K w lo hi a n ts) (hm : Mk lo' hi' w w') (hB : hi ≤ w.heap.size) (hr : hi ≤ lo' ∨ hi' ≤ lo ∨ hi' ≤ lo') : OwnN K w' lo hi a n ts := by
  obtain ⟨hl, gs, b, ho, hb, hk⟩ := h
  refine ⟨hl, gs, b, ?_, hb, hk.mk hm hB hr⟩
  rcases Nat.eq_zero_or_pos n with h0 | h0
  · subst h0
    refine ⟨ho.1, fun h => absurd h (by omega)⟩
  · have := hb h0
    exact ho.mk hm (by omega) (by omega)
theorem OwnN.set (h : OwnN K w lo hi a n ts) (p : Addr) (u : Value) (hp : p.block < lo ∨ hi ≤ p.block) : OwnN K (w.setCell p u) lo hi a n ts := by
  obtain ⟨hl, gs, b, ho, hb, hk⟩ := h
  refine ⟨hl, gs, b, ?_, hb, hk.set p u (.inr hp)⟩
  rcases Nat.eq_zero_or_pos n with h0 | h0
  · subst h0
    refine ⟨ho.1, fun h => absurd h (by omega)⟩
  · have := hb h0
    exact ho.set p u (by omega)
theorem OwnN.wide {lo' hi' : Nat} (h : OwnN K w lo hi a n ts) (hl : lo' ≤ lo) (hh : hi ≤ hi') : OwnN K w lo' hi' a n ts := by
  obtain ⟨hl', gs, b, ho, hb, hk⟩ := h
  exact ⟨hl', gs, b, ho, fun h => by have := hb h; omega, hk.wide hl hh⟩
theorem OwnN.none_ (K : Kd η α) (w : World) (lo hi : Nat) (a : Option Addr) : OwnN K w lo hi a 0 [] := ⟨rfl, [], 0, OwnR.none_ _ _ _ _, fun h => absurd h (by omega), Kids.none_ _ _ _ _ _ _ _⟩
/-- Out of a row of heads that one appends to. -/
theorem OwnN.of_row {e : TypeId} {c : Nat} (h : w.ownsRow lo e K.nc (.slice a n c) n (rowC K.nc K.cell gs)) (hk : Kids K w lo hi (fun g => (Value.slice a n c).ownBlock = some g) n gs ts) (ht : ts.length = n) (hh : w.heap.size ≤ hi) : OwnN K w lo hi a n ts := by
  have ho := ownsRow_ownR K.pos h
  rcases Nat.eq_zero_or_pos n with h0 | h0
  · subst h0
    exact ⟨ht, gs, 0, ⟨ho.1, fun h => absurd h (by omega)⟩, fun h => absurd h (by omega), Kids.none_ _ _ _ _ _ _ _⟩
  · obtain ⟨b, off, rfl, h1, h2, h3⟩ := ho.2 h0
    refine ⟨ht, gs, b, ⟨ho.1, fun _ => ⟨b, off, rfl, Nat.le_refl _, Nat.lt_succ_self _, h3⟩⟩, fun _ => ⟨h1, by omega⟩, hk.avoid fun q hq => ?_⟩
    obtain ⟨_, rfl⟩ := hq
    exact .inl (by rfl)
/-- Out of a row of heads that one has filled. -/
theorem OwnN.of_own {b : Nat} (h : OwnR K.nc K.cell w b (b + 1) a n gs) (hb : lo ≤ b ∧ b < hi) (hk : Kids K w lo hi (fun q => q = b) n gs ts) (ht : ts.length = n) : OwnN K w lo hi a n ts :=
  ⟨ht, gs, b, h, fun _ => hb, hk.avoid fun q hq => .inl hq.2⟩
/-- The kids beside a row that has grown: in place or anew. -/
theorem Kids.grow {v v' : Value} (h : Kids K w lo hi (fun g => v.ownBlock = some g) n gs ts) (hg : w.grownBy w' v.ownBlock) (hh : hi ≤ w.heap.size) (hat : v'.ownBlock = v.ownBlock ∨ v'.ownBlock = some w.heap.size) : Kids K w' lo hi (fun g => v'.ownBlock = some g) n gs ts := by
  obtain ⟨l, r, ha, hk⟩ := h
  refine ⟨l, r, ha, fun i hi => ?_⟩
  obtain ⟨h1, h2, h3, h4, h5⟩ := hk i hi
  refine ⟨h1, h2, h3, fun g hg' => ?_, ?_⟩
  · rcases hat with e | e
    · exact h4 g (by rw [← e]; exact hg')
    · rw [e] at hg'
      injection hg' with hg'
      omega
  · cases hv : v.ownBlock with
    | none =>
      have m : Mk 0 0 w w' := Mk.of_grown (lo := 0) (hi := 0) hg (fun g e => by rw [hv] at e; cases e)
      exact K.kid_mk h5 m (by omega) (.inr (.inr (Nat.le_refl _)))
    | some g =>
      have m : Mk g (g + 1) w w' := Mk.of_grown hg (fun g' e => by rw [hv] at e; injection e with e; omega)
      have := h4 g hv
      exact K.kid_mk h5 m (by omega) (by omega)
end
end Go.Proofs.Ytdlafigjkefllaa
namespace Go.Proofs.Ytdlafigjkefllaa
open Go Go.RowKit
set_option linter.unusedVariables false
/-- N cells of a block, from off on, that read F and may be written. -/
def Cl (w : World) (b off N : Nat) (F : Nat → Value) : Prop := ∀ j, j < N → w.cell? ⟨b, off + j, none⟩ = some (F j) ∧ w.frozen? ⟨b, off + j, none⟩ = false
section
variable {w w' : World} {b off N : Nat} {F G : Nat → Value}
theorem Cl.put (h : Cl w b off N F) {o q : Nat} (u : Value) (ho : o = off + q) : Cl (w.setCell ⟨b, o, none⟩ u) b off N (fun j => if j = q then u else F j) := by
  intro j hj
  obtain ⟨h1, h2⟩ := h j hj
  refine ⟨?_, frozen_set h2 _ _⟩
  by_cases e : j = q
  · subst e
    rw [ho]
    simp only [if_true]
    exact World.cell?_setCell_same _ _ _ h1
  · simp only [e, if_false]
    exact cell_set h1 _ _ (.inr (by simp only; omega))
theorem Cl.mk {lo hi : Nat} (h : Cl w b off N F) (m : Mk lo hi w w') (hr : b < lo ∨ hi ≤ b) : Cl w' b off N F := fun j hj => by
  obtain ⟨h1, h2⟩ := h j hj
  exact ⟨m.cellAtR h1 hr, frozen_kept h2 m (World.block_lt_of_cell? w _ h1) hr⟩
theorem Cl.set {p : Addr} (h : Cl w b off N F) (u : Value) (hp : p.block ≠ b) : Cl (w.setCell p u) b off N F := fun j hj => by
  obtain ⟨h1, h2⟩ := h j hj
  exact ⟨cell_set h1 _ _ (.inl hp), frozen_set h2 _ _⟩
theorem Cl.congr (h : Cl w b off N F) (e : ∀ j, j < N → F j = G j) : Cl w b off N G := fun j hj => by rw [← e j hj]; exact h j hj
theorem flat_congr {η : Type} [Inhabited η] {nc n : Nat} {cell : η → Nat → Value} {gs : List η} {F : Nat → Value} (h0 : 0 < nc) (h : ∀ i, i < n → ∀ r, r < nc → F (i * nc + r) = cell (gs.getD i default) r) : ∀ j, j < n * nc → F j = flat nc cell gs j := by
  intro j hj
  have e : j = j / nc * nc + j % nc := by rw [Nat.mul_comm]; exact (Nat.div_add_mod j nc).symm
  have hi' : j / nc < n := Nat.div_lt_of_lt_mul (by rw [Nat.mul_comm]; exact hj)
  have := h (j / nc) hi' (j % nc) (Nat.mod_lt _ h0)
  rw [← e] at this
  exact this
end
theorem OwnR.cl {η : Type} [Inhabited η] {nc n lo hi b off : Nat} {cell : η → Nat → Value} {gs : List η} {w : World} (h : OwnR nc cell w lo hi (some ⟨b, off, none⟩) n gs) (hn : 0 < n) : Cl w b off (n * nc) (flat nc cell gs) := by
  obtain ⟨b', off', e, _, _, hc⟩ := h.2 hn
  simp only [Option.some.injEq, Addr.mk.injEq, and_true] at e
  obtain ⟨rfl, rfl⟩ := e
  exact hc
theorem OwnR.of_cl {η : Type} [Inhabited η] {nc n b off : Nat} {cell : η → Nat → Value} {gs : List η} {w : World} (hl : gs.length = n) (h : Cl w b off (n * nc) (flat nc cell gs)) : OwnR nc cell w b (b + 1) (some ⟨b, off, none⟩) n gs :=
  ⟨hl, fun _ => ⟨b, off, rfl, Nat.le_refl _, Nat.lt_succ_self _, h⟩⟩
theorem getD_map_range {β : Type} [Inhabited β] {f : Nat → β} {n i : Nat} (h : i < n) : ((List.range n).map f).getD i default = f i := by
  simp [List.getD_eq_getElem?_getD, h]
end Go.Proofs.Ytdlafigjkefllaa
namespace Go.Proofs.Ytdlafigjkefllaa
open Go Go.RowKit
set_option linter.unusedVariables false
theorem getD_set_at {β : Type} [Inhabited β] {l : List β} {q : Nat} {x : β} (h : q < l.length) : (l.set q x).getD q default = x := by
  simp [List.getD_eq_getElem?_getD, h]
theorem getD_set_off {β : Type} [Inhabited β] {l : List β} {q i : Nat} {x : β} (h : i ≠ q) : (l.set q x).getD i default = l.getD i default := by
  simp only [List.getD_eq_getElem?_getD, List.getElem?_set_ne (Ne.symm h)]
section
variable {η α : Type} [Inhabited η] [Inhabited α] {K : Kd η α} {w w' : World} {lo hi n : Nat} {a : Option Addr} {gs : List η} {ts : List α} {q : Nat → Prop}
/-- One is put anew: its kid lies in lo2 to hi2, behind all others. -/
theorem Kids.upd {lo2 hi2 p : Nat} {g : η} {x : α} (h : Kids K w lo hi q n gs ts) (hp : p < n) (hg : gs.length = n) (ht : ts.length = n) (h1 : lo ≤ lo2) (h12 : lo2 ≤ hi2) (hx : K.kid w lo2 hi2 g x) (hf : hi ≤ lo2) (hq : ∀ b, q b → b < lo2 ∨ hi2 ≤ b) : Kids K w lo hi2 q n (gs.set p g) (ts.set p x) := by
  obtain ⟨l, r, ha, hk⟩ := h
  refine ⟨fun i => if i = p then lo2 else l i, fun i => if i = p then hi2 else r i, fun i j hi' hj' hij => ?_, fun i hi' => ?_⟩
  · by_cases e1 : i = p
    · have e2 : j ≠ p := by omega
      simp only [e1, e2, if_true, if_false]
      have := hk j hj'
      right; omega
    · by_cases e2 : j = p
      · simp only [e1, e2, if_true, if_false]
        have := hk i hi'
        left; omega
      · simp only [e1, e2, if_false]
        exact ha i j hi' hj' hij
  · by_cases e : i = p
    · subst e
      simp only [if_true]
      rw [getD_set_at (by omega), getD_set_at (by omega)]
      exact ⟨h1, h12, Nat.le_refl _, hq, hx⟩
    · simp only [e, if_false]
      obtain ⟨g1, g2, g3, g4, g5⟩ := hk i hi'
      rw [getD_set_off e, getD_set_off e]
      exact ⟨g1, g2, by omega, g4, g5⟩
end
/-- A head is put into its place. -/
theorem flat_set {η : Type} [Inhabited η] {nc n p : Nat} {cell : η → Nat → Value} {gs : List η} {g : η} {F : Nat → Value} (h0 : 0 < nc) (hp : p < n) (hg : gs.length = n) (h1 : ∀ r, r < nc → F (p * nc + r) = cell g r) (h2 : ∀ i, i < n → i ≠ p → ∀ r, r < nc → F (i * nc + r) = flat nc cell gs (i * nc + r)) : ∀ j, j < n * nc → F j = flat nc cell (gs.set p g) j := by
  refine flat_congr h0 fun i hi r hr => ?_
  by_cases e : i = p
  · subst e
    rw [h1 r hr, getD_set_at (by omega)]
  · rw [h2 i hi e r hr, flat_at _ i r hr, getD_set_off e]
end Go.Proofs.Ytdlafigjkefllaa
