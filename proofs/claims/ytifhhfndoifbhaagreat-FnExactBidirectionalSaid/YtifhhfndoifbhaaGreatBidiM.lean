
/- Rows of one's own whose elements lead to rows of one's own, each in a range of its own: the heads are a flat row, what they lead to stands beside. -/
import Derived.Test.YtifhhfndoifbhaaGreatAppR
import Derived.Test.YtifhhfndoifbhaaGreatNPathPart
import Derived.Test.YtifhhfndoifbhaaGreatOwnP
import Derived.Test.YtifhhfndoifbhaaGreatCPath
import Derived.Test.YtifhhfndoifbhaaGreatTurn
import Derived.Test.YtifhhfndoifbhaaGreatRevPt
import Derived.Test.YtifhhfndoifbhaaGreatWs
import Derived.Test.YtifhhfndoifbhaaGreatPUse
namespace Go.Proofs.YtifhhfndoifbhaaGreat
open Go Go.RowKit
set_option linter.unusedVariables false
/-- A kind of element: the head's cells, and what the head leads to (in the blocks from lo to hi). -/
structure Kd (η α : Type) [Inhabited η] [Inhabited α] where
  nc : Nat
  pos : 0 < nc
  cell : η → Nat → Value
  kid : World → Nat → Nat → η → α → Prop
  kid_mk : ∀ {lo hi lo' hi' : Nat} {w w' : World} {g : η} {x : α}, kid w lo hi g x → Mk lo' hi' w w' → hi ≤ w.heap.size → (hi ≤ lo' ∨ hi' ≤ lo ∨ hi' ≤ lo') → kid w' lo hi g x
  kid_set : ∀ {lo hi : Nat} {w : World} {g : η} {x : α}, kid w lo hi g x → ∀ (p : Addr) (u : Value), (p.block < lo ∨ hi ≤ p.block) → kid (w.setCell p u) lo hi g x
  kid_wide : ∀ {lo hi lo' hi' : Nat} {w : World} {g : η} {x : α}, kid w lo hi g x → lo' ≤ lo → hi ≤ hi' → kid w lo' hi' g x
def Apart (l h : Nat → Nat) (n : Nat) : Prop := ∀ i j, i < n → j < n → i ≠ j → h i ≤ l j ∨ h j ≤ l i
/-- The kids of n heads: each in a range of its own within lo to hi, apart from the blocks of q. -/
def Kids {η α : Type} [Inhabited η] [Inhabited α] (K : Kd η α) (w : World) (lo hi : Nat) (q : Nat → Prop) (n : Nat) (gs : List η) (ts : List α) : Prop :=
  ∃ l h : Nat → Nat, Apart l h n ∧ ∀ i, i < n → lo ≤ l i ∧ l i ≤ h i ∧ h i ≤ hi ∧ (∀ b, q b → b < l i ∨ h i ≤ b) ∧ K.kid w (l i) (h i) (gs.getD i default) (ts.getD i default)
def OwnN {η α : Type} [Inhabited η] [Inhabited α] (K : Kd η α) (w : World) (lo hi : Nat) (a : Option Addr) (n : Nat) (ts : List α) : Prop :=
  ts.length = n ∧ ∃ (gs : List η) (b : Nat), OwnR K.nc K.cell w b (b + 1) a n gs ∧ (0 < n → lo ≤ b ∧ b < hi) ∧ Kids K w lo hi (fun q => 0 < n ∧ q = b) n gs ts
section
variable {η α : Type} [Inhabited η] [Inhabited α] {K : Kd η α} {w w' : World} {lo hi n : Nat} {a : Option Addr} {gs : List η} {ts : List α} {q : Nat → Prop}
theorem Kids.mk {lo' hi' : Nat} (h : Kids K w lo hi q n gs ts) (hm : Mk lo' hi' w w') (hB : hi ≤ w.heap.size) (hr : hi ≤ lo' ∨ hi' ≤ lo ∨ hi' ≤ lo') : Kids K w' lo hi q n gs ts := by
  obtain ⟨l, r, ha, hk⟩ := h
  refine ⟨l, r, ha, fun i hi => ?_⟩
  obtain ⟨h1, h2, h3, h4, h5⟩ := hk i hi
  exact ⟨h1, h2, h3, h4, K.kid_mk h5 hm (by omega) (by omega)⟩
theorem Kids.set (h : Kids K w lo hi q n gs ts) (p : Addr) (u : Value) (hp : q p.block ∨ p.block < lo ∨ hi ≤ p.block) : Kids K (w.setCell p u) lo hi q n gs ts := by
  obtain ⟨l, r, ha, hk⟩ := h
  refine ⟨l, r, ha, fun i hi => ?_⟩
  obtain ⟨h1, h2, h3, h4, h5⟩ := hk i hi
  refine ⟨h1, h2, h3, h4, K.kid_set h5 p u ?_⟩
  rcases hp with hp | hp
  · exact h4 _ hp
  · omega
theorem Kids.wide {lo' hi' : Nat} (h : Kids K w lo hi q n gs ts) (hl : lo' ≤ lo) (hh : hi ≤ hi') : Kids K w lo' hi' q n gs ts := by
  obtain ⟨l, r, ha, hk⟩ := h
  refine ⟨l, r, ha, fun i hi => ?_⟩
  obtain ⟨h1, h2, h3, h4, h5⟩ := hk i hi
  exact ⟨by omega, h2, by omega, h4, h5⟩
theorem Kids.avoid {q' : Nat → Prop} (h : Kids K w lo hi q n gs ts) (hq : ∀ b, q' b → q b ∨ b < lo ∨ hi ≤ b) : Kids K w lo hi q' n gs ts := by
  obtain ⟨l, r, ha, hk⟩ := h
  refine ⟨l, r, ha, fun i hi => ?_⟩
  obtain ⟨h1, h2, h3, h4, h5⟩ := hk i hi
  refine ⟨h1, h2, h3, fun b hb => ?_, h5⟩
  rcases hq b hb with hb | hb
  · exact h4 b hb
  · omega
theorem Kids.none_ (K : Kd η α) (w : World) (lo hi : Nat) (q : Nat → Prop) (gs : List η) (ts : List α) : Kids K w lo hi q 0 gs ts := ⟨fun _ => 0, fun _ => 0, fun i j h => by omega, fun i h => by omega⟩
theorem getD_snoc_lt {β : Type} [Inhabited β] {l : List β} {x : β} {i : Nat} (h : i < l.length) : (l ++ [x]).getD i default = l.getD i default := by
  simp only [List.getD_eq_getElem?_getD, List.getElem?_append_left h]
theorem getD_snoc_eq {β : Type} [Inhabited β] {l : List β} {x : β} {n : Nat} (h : l.length = n) : (l ++ [x]).getD n default = x := by
  subst h
  simp [List.getD_eq_getElem?_getD]
/-- One more: its kid lies in lo2 to hi2, behind or ahead of all others. -/
theorem Kids.snoc {lo2 hi2 : Nat} {g : η} {x : α} (h : Kids K w lo hi q n gs ts) (hg : gs.length = n) (ht : ts.length = n) (h1 : lo ≤ lo2) (h12 : lo2 ≤ hi2) (hx : K.kid w lo2 hi2 g x) (hf : hi ≤ lo2) (hq : ∀ b, q b → b < lo2 ∨ hi2 ≤ b) : Kids K w lo hi2 q (n + 1) (gs ++ [g]) (ts ++ [x]) := by
  obtain ⟨l, r, ha, hk⟩ := h
  refine ⟨fun i => if i = n then lo2 else l i, fun i => if i = n then hi2 else r i, fun i j hi' hj' hij => ?_, fun i hi' => ?_⟩
  · by_cases e1 : i = n
    · have e2 : j ≠ n := by omega
      simp only [e1, e2, if_true, if_false]
      have := hk j (by omega)
      right; omega
    · by_cases e2 : j = n
      · simp only [e1, e2, if_true, if_false]
        have := hk i (by omega)
        left; omega
      · simp only [e1, e2, if_false]
        exact ha i j (by omega) (by omega) hij
  · by_cases e : i = n
    · subst e
      simp only [if_true]
      rw [getD_snoc_eq hg, getD_snoc_eq ht]
      exact ⟨h1, h12, Nat.le_refl _, hq, hx⟩
    · simp only [e, if_false]
      obtain ⟨g1, g2, g3, g4, g5⟩ := hk i (by omega)
      rw [getD_snoc_lt (by omega), getD_snoc_lt (by omega)]
      exact ⟨g1, g2, by omega, g4, g5⟩
theorem OwnN.mk {lo' hi' : Nat} (h : OwnN K w lo hi a n ts) (hm : Mk lo' hi' w w') (hB : hi ≤ w.heap.size) (hr : hi ≤ lo' ∨ hi' ≤ lo ∨ hi' ≤ lo') : OwnN K w' lo hi a n ts := by
  obtain ⟨hl, gs, b, ho, hb, hk⟩ := h
  refine ⟨hl, gs, b, ?_, hb, hk.mk hm hB hr⟩
  rcases Nat.eq_zero_or_pos n with h0 | h0
  · subst h0
    refine ⟨ho.1, fun h => absurd h (by omega)⟩
  · have := hb h0
    exact ho.mk hm (by omega) (by omega)
theorem OwnN.set (h : OwnN K w lo hi a n ts) (p : Addr) (u : Value) (hp : p.block < lo ∨ hi ≤ p.block) : OwnN K (w.setCell p u) lo hi a n ts := by
  obtain ⟨hl, gs, b, ho, hb, hk⟩ := h
  refine ⟨hl, gs, b, ?_, hb, hk.set p u (.inr hp)⟩
  rcases Nat.eq_zero_or_pos n with h0 | h0
  · subst h0
    refine ⟨ho.1, fun h => absurd h (by omega)⟩
  · have := hb h0
    exact ho.set p u (by omega)
theorem OwnN.wide {lo' hi' : Nat} (h : OwnN K w lo hi a n ts) (hl : lo' ≤ lo) (hh : hi ≤ hi') : OwnN K w lo' hi' a n ts := by
  obtain ⟨hl', gs, b, ho, hb, hk⟩ := h
  exact ⟨hl', gs, b, ho, fun h => by have := hb h; omega, hk.wide hl hh⟩
theorem OwnN.none_ (K : Kd η α) (w : World) (lo hi : Nat) (a : Option Addr) : OwnN K w lo hi a 0 [] := ⟨rfl, [], 0, OwnR.none_ _ _ _ _, fun h => absurd h (by omega), Kids.none_ _ _ _ _ _ _ _⟩
/-- Out of a row of heads that one appends to. -/
theorem OwnN.of_row {e : TypeId} {c : Nat} (h : w.ownsRow lo e K.nc (.slice a n c) n (rowC K.nc K.cell gs)) (hk : Kids K w lo hi (fun g => (Value.slice a n c).ownBlock = some g) n gs ts) (ht : ts.length = n) (hh : w.heap.size ≤ hi) : OwnN K w lo hi a n ts := by
  have ho := ownsRow_ownR K.pos h
  rcases Nat.eq_zero_or_pos n with h0 | h0
  · subst h0
    exact ⟨ht, gs, 0, ⟨ho.1, fun h => absurd h (by omega)⟩, fun h => absurd h (by omega), Kids.none_ _ _ _ _ _ _ _⟩
  · obtain ⟨b, off, rfl, h1, h2, h3⟩ := ho.2 h0
    refine ⟨ht, gs, b, ⟨ho.1, fun _ => ⟨b, off, rfl, Nat.le_refl _, Nat.lt_succ_self _, h3⟩⟩, fun _ => ⟨h1, by omega⟩, hk.avoid fun q hq => ?_⟩
    obtain ⟨_, rfl⟩ := hq
    exact .inl (by rfl)
/-- Out of a row of heads that one has filled. -/
theorem OwnN.of_own {b : Nat} (h : OwnR K.nc K.cell w b (b + 1) a n gs) (hb : lo ≤ b ∧ b < hi) (hk : Kids K w lo hi (fun q => q = b) n gs ts) (ht : ts.length = n) : OwnN K w lo hi a n ts :=
  ⟨ht, gs, b, h, fun _ => hb, hk.avoid fun q hq => .inl hq.2⟩
/-- The kids beside a row that has grown: in place or anew. -/
theorem Kids.grow {v v' : Value} (h : Kids K w lo hi (fun g => v.ownBlock = some g) n gs ts) (hg : w.grownBy w' v.ownBlock) (hh : hi ≤ w.heap.size) (hat : v'.ownBlock = v.ownBlock ∨ v'.ownBlock = some w.heap.size) : Kids K w' lo hi (fun g => v'.ownBlock = some g) n gs ts := by
  obtain ⟨l, r, ha, hk⟩ := h
  refine ⟨l, r, ha, fun i hi => ?_⟩
  obtain ⟨h1, h2, h3, h4, h5⟩ := hk i hi
  refine ⟨h1, h2, h3, fun g hg' => ?_, ?_⟩
  · rcases hat with e | e
    · exact h4 g (by rw [← e]; exact hg')
    · rw [e] at hg'
      injection hg' with hg'
      omega
  · cases hv : v.ownBlock with
    | none =>
      have m : Mk 0 0 w w' := Mk.of_grown (lo := 0) (hi := 0) hg (fun g e => by rw [hv] at e; cases e)
      exact K.kid_mk h5 m (by omega) (.inr (.inr (Nat.le_refl _)))
    | some g =>
      have m : Mk g (g + 1) w w' := Mk.of_grown hg (fun g' e => by rw [hv] at e; injection e with e; omega)
      have := h4 g hv
      exact K.kid_mk h5 m (by omega) (by omega)
end
end Go.Proofs.YtifhhfndoifbhaaGreat
namespace Go.Proofs.YtifhhfndoifbhaaGreat
open Go Go.RowKit
set_option linter.unusedVariables false
/-- N cells of a block, from off on, that read F and may be written. -/
def Cl (w : World) (b off N : Nat) (F : Nat → Value) : Prop := ∀ j, j < N → w.cell? ⟨b, off + j, none⟩ = some (F j) ∧ w.frozen? ⟨b, off + j, none⟩ = false
section
variable {w w' : World} {b off N : Nat} {F G : Nat → Value}
theorem Cl.put (h : Cl w b off N F) {o q : Nat} (u : Value) (ho : o = off + q) : Cl (w.setCell ⟨b, o, none⟩ u) b off N (fun j => if j = q then u else F j) := by
  intro j hj
  obtain ⟨h1, h2⟩ := h j hj
  refine ⟨?_, frozen_set h2 _ _⟩
  by_cases e : j = q
  · subst e
    rw [ho]
    simp only [if_true]
    exact World.cell?_setCell_same _ _ _ h1
  · simp only [e, if_false]
    exact cell_set h1 _ _ (.inr (by simp only; omega))
theorem Cl.mk {lo hi : Nat} (h : Cl w b off N F) (m : Mk lo hi w w') (hr : b < lo ∨ hi ≤ b) : Cl w' b off N F := fun j hj => by
  obtain ⟨h1, h2⟩ := h j hj
  exact ⟨m.cellAtR h1 hr, frozen_kept h2 m (World.block_lt_of_cell? w _ h1) hr⟩
theorem Cl.set {p : Addr} (h : Cl w b off N F) (u : Value) (hp : p.block ≠ b) : Cl (w.setCell p u) b off N F := fun j hj => by
  obtain ⟨h1, h2⟩ := h j hj
  exact ⟨cell_set h1 _ _ (.inl hp), frozen_set h2 _ _⟩
theorem Cl.congr (h : Cl w b off N F) (e : ∀ j, j < N → F j = G j) : Cl w b off N G := fun j hj => by rw [← e j hj]; exact h j hj
theorem flat_congr {η : Type} [Inhabited η] {nc n : Nat} {cell : η → Nat → Value} {gs : List η} {F : Nat → Value} (h0 : 0 < nc) (h : ∀ i, i < n → ∀ r, r < nc → F (i * nc + r) = cell (gs.getD i default) r) : ∀ j, j < n * nc → F j = flat nc cell gs j := by
  intro j hj
  have e : j = j / nc * nc + j % nc := by rw [Nat.mul_comm]; exact (Nat.div_add_mod j nc).symm
  have hi' : j / nc < n := Nat.div_lt_of_lt_mul (by rw [Nat.mul_comm]; exact hj)
  have := h (j / nc) hi' (j % nc) (Nat.mod_lt _ h0)
  rw [← e] at this
  exact this
end
theorem OwnR.cl {η : Type} [Inhabited η] {nc n lo hi b off : Nat} {cell : η → Nat → Value} {gs : List η} {w : World} (h : OwnR nc cell w lo hi (some ⟨b, off, none⟩) n gs) (hn : 0 < n) : Cl w b off (n * nc) (flat nc cell gs) := by
  obtain ⟨b', off', e, _, _, hc⟩ := h.2 hn
  simp only [Option.some.injEq, Addr.mk.injEq, and_true] at e
  obtain ⟨rfl, rfl⟩ := e
  exact hc
theorem OwnR.of_cl {η : Type} [Inhabited η] {nc n b off : Nat} {cell : η → Nat → Value} {gs : List η} {w : World} (hl : gs.length = n) (h : Cl w b off (n * nc) (flat nc cell gs)) : OwnR nc cell w b (b + 1) (some ⟨b, off, none⟩) n gs :=
  ⟨hl, fun _ => ⟨b, off, rfl, Nat.le_refl _, Nat.lt_succ_self _, h⟩⟩
theorem getD_map_range {β : Type} [Inhabited β] {f : Nat → β} {n i : Nat} (h : i < n) : ((List.range n).map f).getD i default = f i := by
  simp [List.getD_eq_getElem?_getD, h]
end Go.Proofs.YtifhhfndoifbhaaGreat
namespace Go.Proofs.YtifhhfndoifbhaaGreat
open Go Go.RowKit
set_option linter.unusedVariables false
theorem getD_set_at {β : Type} [Inhabited β] {l : List β} {q : Nat} {x : β} (h : q < l.length) : (l.set q x).getD q default = x := by
  simp [List.getD_eq_getElem?_getD, h]
theorem getD_set_off {β : Type} [Inhabited β] {l : List β} {q i : Nat} {x : β} (h : i ≠ q) : (l.set q x).getD i default = l.getD i default := by
  simp only [List.getD_eq_getElem?_getD, List.getElem?_set_ne (Ne.symm h)]
section
variable {η α : Type} [Inhabited η] [Inhabited α] {K : Kd η α} {w w' : World} {lo hi n : Nat} {a : Option Addr} {gs : List η} {ts : List α} {q : Nat → Prop}
/-- One is put anew: its kid lies in lo2 to hi2, behind all others. -/
theorem Kids.upd {lo2 hi2 p : Nat} {g : η} {x : α} (h : Kids K w lo hi q n gs ts) (hp : p < n) (hg : gs.length = n) (ht : ts.length = n) (h1 : lo ≤ lo2) (h12 : lo2 ≤ hi2) (hx : K.kid w lo2 hi2 g x) (hf : hi ≤ lo2) (hq : ∀ b, q b → b < lo2 ∨ hi2 ≤ b) : Kids K w lo hi2 q n (gs.set p g) (ts.set p x) := by
  obtain ⟨l, r, ha, hk⟩ := h
  refine ⟨fun i => if i = p then lo2 else l i, fun i => if i = p then hi2 else r i, fun i j hi' hj' hij => ?_, fun i hi' => ?_⟩
  · by_cases e1 : i = p
    · have e2 : j ≠ p := by omega
      simp only [e1, e2, if_true, if_false]
      have := hk j hj'
      right; omega
    · by_cases e2 : j = p
      · simp only [e1, e2, if_true, if_false]
        have := hk i hi'
        left; omega
      · simp only [e1, e2, if_false]
        exact ha i j hi' hj' hij
  · by_cases e : i = p
    · subst e
      simp only [if_true]
      rw [getD_set_at (by omega), getD_set_at (by omega)]
      exact ⟨h1, h12, Nat.le_refl _, hq, hx⟩
    · simp only [e, if_false]
      obtain ⟨g1, g2, g3, g4, g5⟩ := hk i hi'
      rw [getD_set_off e, getD_set_off e]
      exact ⟨g1, g2, by omega, g4, g5⟩
end
/-- A head is put into its place. -/
theorem flat_set {η : Type} [Inhabited η] {nc n p : Nat} {cell : η → Nat → Value} {gs : List η} {g : η} {F : Nat → Value} (h0 : 0 < nc) (hp : p < n) (hg : gs.length = n) (h1 : ∀ r, r < nc → F (p * nc + r) = cell g r) (h2 : ∀ i, i < n → i ≠ p → ∀ r, r < nc → F (i * nc + r) = flat nc cell gs (i * nc + r)) : ∀ j, j < n * nc → F j = flat nc cell (gs.set p g) j := by
  refine flat_congr h0 fun i hi r hr => ?_
  by_cases e : i = p
  · subst e
    rw [h1 r hr, getD_set_at (by omega)]
  · rw [h2 i hi e r hr, flat_at _ i r hr, getD_set_off e]
end Go.Proofs.YtifhhfndoifbhaaGreat
namespace Go.Proofs.YtifhhfndoifbhaaGreat
open Go.ChangeShapes Go.WideShapes Go.ChangeAt Go.RowKit
set_option linter.unusedVariables false
structure HPathPart where (kind : Int) (ts : Int) (beta : Int) (a : Option Addr) (n : Nat) (c : Nat)
instance : Inhabited HPathPart := ⟨⟨0, 0, 0, none, 0, 0⟩⟩
def HPathPart.cell (g : HPathPart) : Nat → Value
  | 0 => .int .i64 g.kind
  | 1 => .int .i64 g.ts
  | 2 => .int .i64 g.beta
  | _ => .slice g.a g.n g.c
def WPathPart : Kd HPathPart TPathPart where
  nc := 4
  pos := by decide
  cell := HPathPart.cell
  kid := fun w lo hi g x => g.kind = x.kind ∧ g.ts = x.ts ∧ g.beta = x.beta ∧ OwnHop w lo hi g.a g.n x.hops ∧ g.n ≤ g.c ∧ g.c ≤ 9223372036854775807 ∧ (g.a = none → g.c = 0)
  kid_mk := by
    intro lo hi lo' hi' w w' g x h m hB hr
    obtain ⟨e0, e1, e2, o, p1, p2, p3⟩ := h
    exact ⟨e0, e1, e2, o.mk m hB hr, p1, p2, p3⟩
  kid_set := by
    intro lo hi w g x h p u hp
    obtain ⟨e0, e1, e2, o, p1, p2, p3⟩ := h
    exact ⟨e0, e1, e2, o.set p u hp, p1, p2, p3⟩
  kid_wide := by
    intro lo hi lo' hi' w g x h hl hh
    obtain ⟨e0, e1, e2, o, p1, p2, p3⟩ := h
    exact ⟨e0, e1, e2, o.wide hl hh, p1, p2, p3⟩
/-- The numbers that an element holds. -/
def totPathPart (x : TPathPart) : Nat := 3 + 5 * x.hops.length
def mkePathPart (k : Int) (x : TPathPart) : TPathPart := ⟨k, k + 1, k + 2, mklHop (k + 3) x.hops.length⟩
def mkPathPart (k : Int) (zs : List TPathPart) (n : Nat) : List TPathPart := (List.range n).map fun i => mkePathPart (k + ((sumTo totPathPart zs i : Nat) : Int)) (zs.getD i default)
theorem mkPathPart_len (k : Int) (zs : List TPathPart) (n : Nat) : (mkPathPart k zs n).length = n := by simp [mkPathPart]
theorem mkPathPart_at (k : Int) (zs : List TPathPart) {n i : Nat} (h : i < n) : (mkPathPart k zs n).getD i default = mkePathPart (k + ((sumTo totPathPart zs i : Nat) : Int)) (zs.getD i default) := getD_map_range h
theorem OwnN.hasPathPart {w : World} {lo hi n : Nat} {a : Option Addr} {ts : List TPathPart} (h : OwnN WPathPart w lo hi a n ts) : HasPathPart w hi a n ts := by
  obtain ⟨hl, gs, b, ho, hb, l, r, hap, hk⟩ := h
  refine ⟨hl, fun hn => ?_⟩
  obtain ⟨b', off, rfl, hb1, hb2, hc⟩ := ho.2 hn
  have hbb := hb hn
  refine ⟨b', off, rfl, by omega, fun i hi => ?_⟩
  obtain ⟨g1, g2, g3, g4, e0, e1, e2, o, p1, p2, p3⟩ := hk i hi
  have c0 := (hc (i * 4 + 0) (flat_le (nc := 4) hi (by decide))).1
  rw [show flat WPathPart.nc WPathPart.cell gs (i * 4 + 0) = HPathPart.cell (gs.getD i default) 0 from flat_at _ i 0 (by decide)] at c0
  have c1 := (hc (i * 4 + 1) (flat_le (nc := 4) hi (by decide))).1
  rw [show flat WPathPart.nc WPathPart.cell gs (i * 4 + 1) = HPathPart.cell (gs.getD i default) 1 from flat_at _ i 1 (by decide)] at c1
  rw [← Nat.add_assoc] at c1
  have c2 := (hc (i * 4 + 2) (flat_le (nc := 4) hi (by decide))).1
  rw [show flat WPathPart.nc WPathPart.cell gs (i * 4 + 2) = HPathPart.cell (gs.getD i default) 2 from flat_at _ i 2 (by decide)] at c2
  rw [← Nat.add_assoc] at c2
  have c3 := (hc (i * 4 + 3) (flat_le (nc := 4) hi (by decide))).1
  rw [show flat WPathPart.nc WPathPart.cell gs (i * 4 + 3) = HPathPart.cell (gs.getD i default) 3 from flat_at _ i 3 (by decide)] at c3
  rw [← Nat.add_assoc] at c3
  generalize gs.getD i default = g at *
  refine ⟨g.a, g.n, g.c, (e0 ▸ c0), (e1 ▸ c1), (e2 ▸ c2), c3, (o.has).mono (by omega), p1, p2, p3⟩
def mhPathPart (gs : List HPathPart) (zs : List TPathPart) (kz : Int) (k n : Nat) : List HPathPart := (List.range n).map fun i => if i < k then ⟨kz + ((sumTo totPathPart zs i : Nat) : Int), kz + ((sumTo totPathPart zs i : Nat) : Int) + 1, kz + ((sumTo totPathPart zs i : Nat) : Int) + 2, (gs.getD i default).a, (gs.getD i default).n, (gs.getD i default).c⟩ else gs.getD i default
def mzPathPart (zs : List TPathPart) (kz : Int) (k n : Nat) : List TPathPart := (List.range n).map fun i => if i < k then mkePathPart (kz + ((sumTo totPathPart zs i : Nat) : Int)) (zs.getD i default) else zs.getD i default
theorem mhPathPart_at (gs : List HPathPart) (zs : List TPathPart) (kz : Int) (k : Nat) {n i : Nat} (h : i < n) : (mhPathPart gs zs kz k n).getD i default = if i < k then ⟨kz + ((sumTo totPathPart zs i : Nat) : Int), kz + ((sumTo totPathPart zs i : Nat) : Int) + 1, kz + ((sumTo totPathPart zs i : Nat) : Int) + 2, (gs.getD i default).a, (gs.getD i default).n, (gs.getD i default).c⟩ else gs.getD i default := getD_map_range h
theorem mzPathPart_at (zs : List TPathPart) (kz : Int) (k : Nat) {n i : Nat} (h : i < n) : (mzPathPart zs kz k n).getD i default = if i < k then mkePathPart (kz + ((sumTo totPathPart zs i : Nat) : Int)) (zs.getD i default) else zs.getD i default := getD_map_range h
structure StPathPart (gs : List HPathPart) (zs : List TPathPart) (kz : Int) (n b off : Nat) (l r : Nat → Nat) (k : Nat) (w : World) : Prop where
  cl : Cl w b off (n * 4) (flat 4 HPathPart.cell (mhPathPart gs zs kz k n))
  kid : ∀ i, i < n → WPathPart.kid w (l i) (r i) ((mhPathPart gs zs kz k n).getD i default) ((mzPathPart zs kz k n).getD i default)
theorem StPathPart.start {gs : List HPathPart} {zs : List TPathPart} {n b off : Nat} {l r : Nat → Nat} {w : World} (kz : Int) (hc : Cl w b off (n * 4) (flat 4 HPathPart.cell gs)) (hk : ∀ i, i < n → WPathPart.kid w (l i) (r i) (gs.getD i default) (zs.getD i default)) : StPathPart gs zs kz n b off l r 0 w := by
  refine ⟨hc.congr (flat_congr (by decide) fun i hi q hq => ?_), fun i hi => ?_⟩
  · rw [flat_at _ i q hq, mhPathPart_at gs zs kz 0 hi, if_neg (by omega)]
  · rw [mhPathPart_at gs zs kz 0 hi, mzPathPart_at zs kz 0 hi, if_neg (by omega), if_neg (by omega)]
    exact hk i hi
theorem StPathPart.next {gs : List HPathPart} {zs : List TPathPart} {kz : Int} {n b off : Nat} {l r : Nat → Nat} {k : Nat} {w w' : World} (h : StPathPart gs zs kz n b off l r k w) (hlt : k < n) (hap : Apart l r n) (hq : ∀ i, i < n → b < l i ∨ r i ≤ b) (hr : ∀ i, i < n → r i ≤ w.heap.size)
    (m : Mk (l k) (r k) (((w.setCell ⟨b, off + k * 4, none⟩ (.int .i64 (kz + ((sumTo totPathPart zs k : Nat) : Int)))).setCell ⟨b, off + k * 4 + 1, none⟩ (.int .i64 (kz + ((sumTo totPathPart zs k : Nat) : Int) + 1))).setCell ⟨b, off + k * 4 + 2, none⟩ (.int .i64 (kz + ((sumTo totPathPart zs k : Nat) : Int) + 2))) w') (ho : OwnHop w' (l k) (r k) (gs.getD k default).a (gs.getD k default).n (mkePathPart (kz + ((sumTo totPathPart zs k : Nat) : Int)) (zs.getD k default)).hops) : StPathPart gs zs kz n b off l r (k + 1) w' := by
  have hz : (((w.setCell ⟨b, off + k * 4, none⟩ (.int .i64 (kz + ((sumTo totPathPart zs k : Nat) : Int)))).setCell ⟨b, off + k * 4 + 1, none⟩ (.int .i64 (kz + ((sumTo totPathPart zs k : Nat) : Int) + 1))).setCell ⟨b, off + k * 4 + 2, none⟩ (.int .i64 (kz + ((sumTo totPathPart zs k : Nat) : Int) + 2))).heap.size = w.heap.size := by simp only [World.size_set]
  have hC := (((h.cl.put (o := off + k * 4) (q := k * 4 + 0) (.int .i64 (kz + ((sumTo totPathPart zs k : Nat) : Int))) (by omega)).put (o := off + k * 4 + 1) (q := k * 4 + 1) (.int .i64 (kz + ((sumTo totPathPart zs k : Nat) : Int) + 1)) (by omega)).put (o := off + k * 4 + 2) (q := k * 4 + 2) (.int .i64 (kz + ((sumTo totPathPart zs k : Nat) : Int) + 2)) (by omega))
  refine ⟨(hC.mk m (hq k hlt)).congr (flat_congr (by decide) fun i hi q hq' => ?_), fun i hi => ?_⟩
  · rw [mhPathPart_at gs zs kz (k + 1) hi]
    have hf : flat 4 HPathPart.cell (mhPathPart gs zs kz k n) (i * 4 + q) = HPathPart.cell ((mhPathPart gs zs kz k n).getD i default) q := flat_at _ i q hq'
    rw [mhPathPart_at gs zs kz k hi] at hf
    by_cases e : i = k
    · subst e
      rw [if_pos (show i < i + 1 by omega)]
      rw [if_neg (show ¬ i < i by omega)] at hf
      match q, hq' with
      | 0, _ => rw [if_neg (show ¬ (i * 4 + 0 = i * 4 + 2) by omega)]; rw [if_neg (show ¬ (i * 4 + 0 = i * 4 + 1) by omega)]; rw [if_pos rfl]; rfl
      | 1, _ => rw [if_neg (show ¬ (i * 4 + 1 = i * 4 + 2) by omega)]; rw [if_pos rfl]; rfl
      | 2, _ => rw [if_pos rfl]; rfl
      | 3, _ => rw [if_neg (show ¬ (i * 4 + 3 = i * 4 + 2) by omega)]; rw [if_neg (show ¬ (i * 4 + 3 = i * 4 + 1) by omega)]; rw [if_neg (show ¬ (i * 4 + 3 = i * 4 + 0) by omega)]; rw [hf]; rfl
    · rw [if_neg (show ¬ (i * 4 + q = k * 4 + 2) by omega)]; rw [if_neg (show ¬ (i * 4 + q = k * 4 + 1) by omega)]; rw [if_neg (show ¬ (i * 4 + q = k * 4 + 0) by omega)]; rw [hf]
      by_cases e2 : i < k
      · rw [if_pos e2, if_pos (show i < k + 1 by omega)]
      · rw [if_neg e2, if_neg (show ¬ i < k + 1 by omega)]
  · rw [mhPathPart_at gs zs kz (k + 1) hi, mzPathPart_at zs kz (k + 1) hi]
    have hk1 := (WPathPart.kid_set (WPathPart.kid_set (WPathPart.kid_set (h.kid i hi) ⟨b, off + k * 4, none⟩ (.int .i64 (kz + ((sumTo totPathPart zs k : Nat) : Int))) (hq i hi)) ⟨b, off + k * 4 + 1, none⟩ (.int .i64 (kz + ((sumTo totPathPart zs k : Nat) : Int) + 1)) (hq i hi)) ⟨b, off + k * 4 + 2, none⟩ (.int .i64 (kz + ((sumTo totPathPart zs k : Nat) : Int) + 2)) (hq i hi))
    rw [mhPathPart_at gs zs kz k hi, mzPathPart_at zs kz k hi] at hk1
    by_cases e : i = k
    · subst e
      rw [if_pos (show i < i + 1 by omega), if_pos (show i < i + 1 by omega)]
      rw [if_neg (show ¬ i < i by omega), if_neg (show ¬ i < i by omega)] at hk1
      obtain ⟨e0, e1, e2, o, p1, p2, p3⟩ := hk1
      exact ⟨rfl, rfl, rfl, ho, p1, p2, p3⟩
    · have hk2 := WPathPart.kid_mk hk1 m (by rw [hz]; exact hr i hi) (by have := hap i k hi hlt e; omega)
      by_cases e2 : i < k
      · rw [if_pos e2, if_pos e2] at hk2
        rw [if_pos (show i < k + 1 by omega), if_pos (show i < k + 1 by omega)]
        exact hk2
      · rw [if_neg e2, if_neg e2] at hk2
        rw [if_neg (show ¬ i < k + 1 by omega), if_neg (show ¬ i < k + 1 by omega)]
        exact hk2
theorem totlePathPart (zs : List TPathPart) : zs.length ≤ sumTo totPathPart zs zs.length := by
  have : ∀ k, k ≤ sumTo totPathPart zs k := by
    intro k
    induction k with
    | zero => exact Nat.le_refl _
    | succ k ih => rw [sumTo]; have : 1 ≤ totPathPart (zs.getD k default) := by unfold totPathPart; omega
                   omega
  exact this _
end Go.Proofs.YtifhhfndoifbhaaGreat
namespace Go.Proofs.YtifhhfndoifbhaaGreat
open Go.ChangeShapes Go.WideShapes Go.ChangeAt Go.RowKit
set_option linter.unusedVariables false
def OutNPath (R : List TPathPart) (w : World) (e : Ending) (w' : World) : Prop :=
  ∃ A N C, e = .returned (.agg #[.slice A N C]) ∧ ((A = none → C = 0) ∧ (N ≤ C ∧ C ≤ 9223372036854775807)) ∧ OwnN WPathPart w' w.heap.size w'.heap.size A N R ∧ Mk0 w w'
theorem totPathPart_sz (zs : List TPathPart) (n : Nat) : sumTo totPathPart zs n ≤ 5 * szPathPart zs n := by
  have : ∀ k, sumTo totPathPart zs k ≤ 5 * (k + sumTo sePathPart zs k) := by
    intro k
    induction k with
    | zero => simp [sumTo]
    | succ k ih => rw [sumTo, sumTo]; have : totPathPart (zs.getD k default) ≤ 5 + 5 * sePathPart (zs.getD k default) := by unfold totPathPart sePathPart; omega
                   omega
  exact this n
end Go.Proofs.YtifhhfndoifbhaaGreat
namespace Go.Proofs.YtifhhfndoifbhaaGreat
open Go.ChangeShapes Go.WideShapes Go.ChangeAt Go.RowKit
set_option linter.unusedVariables false
def OutElPathPart (y : TPathPart) (w : World) (e : Ending) (w' : World) : Prop :=
  ∃ A N C, e = .returned (.agg #[.int .i64 y.kind, .int .i64 y.ts, .int .i64 y.beta, .slice A N C]) ∧ ((A = none → C = 0) ∧ (N ≤ C ∧ C ≤ 9223372036854775807)) ∧ OwnHop w' w.heap.size w'.heap.size A N y.hops ∧ Mk0 w w'
def OutLPathPart (R : List TPathPart) (w : World) (e : Ending) (w' : World) : Prop :=
  ∃ A N C, e = .returned (.slice A N C) ∧ ((A = none → C = 0) ∧ (N ≤ C ∧ C ≤ 9223372036854775807)) ∧ OwnN WPathPart w' w.heap.size w'.heap.size A N R ∧ Mk0 w w'
theorem onePathPart : ∀ (g : HPathPart) (j : Nat), (HPathPart.cell g j).oneCell' = true := fun g j => by unfold HPathPart.cell; split <;> rfl
theorem own0PathPart (w : World) (b : Nat) : WPathPart.kid w b b default default := by
  refine ⟨rfl, rfl, rfl, OwnR.none_ _ _ _ _, Nat.le_refl _, by decide, fun _ => rfl⟩
end Go.Proofs.YtifhhfndoifbhaaGreat
namespace Go.Proofs.YtifhhfndoifbhaaGreat
open Go.ChangeShapes Go.WideShapes Go.ChangeAt Go.RowKit
set_option linter.unusedVariables false
set_option maxRecDepth 100000 in
set_option maxHeartbeats 4000000 in
theorem turnedPathPart (g : TPathPart → TPathPart) (Fc : FuncId) (a : Option Addr) (n c B : Nat) (zs : List TPathPart) (w : World) (h : HasPathPart w B a n zs) (hB : B ≤ w.heap.size) (hs : szPathPart zs n ≤ 1048576)
    (hen : ∀ (x : TPathPart) a3 n3 c3 w1, (callFunc Fc #[.agg #[.int .i64 x.kind, .int .i64 x.ts, .int .i64 x.beta, .slice a3 n3 c3]]).run Tryz.prog w1 = .ok (.enter Fc #[.agg #[.int .i64 x.kind, .int .i64 x.ts, .int .i64 x.beta, .slice a3 n3 c3]]) w1)
    (hcl : ∀ (x : TPathPart) a3 n3 c3 B1 w1, HasHop w1 B1 a3 n3 x.hops → B1 ≤ w1.heap.size → n3 ≤ 1048576 → n3 ≤ c3 → c3 ≤ 9223372036854775807 → (a3 = none → c3 = 0) → Calls Tryz.prog Fc #[.agg #[.int .i64 x.kind, .int .i64 x.ts, .int .i64 x.beta, .slice a3 n3 c3]] w1 (OutElPathPart (g x) w1)) :
    Calls Tryz.prog 49 #[.slice a n c, .func (.func Fc) #[] #[]] w (OutLPathPart (turnL g zs n) w) := by
  have hn : n ≤ 1048576 := Nat.le_trans (szPathPart_n zs n) hs
  obtain ⟨i0, hi, hz0, hz1, hz2⟩ := info_parts infoRPathPart
  have hu := Tryz.underlying37
  have HCL := Lib.hid hcl
  have HEN := Lib.hid hen
  clear hcl hen
  obtain ⟨RR, hRR⟩ : ∃ R, Hid (R = turnL g zs n) := ⟨_, Lib.hid rfl⟩
  have hRl : RR.length = n := by rw [hRR.out]; exact turnL_len _ _ _
  rw [← hRR.out]
  go_enter Tryz.func49, Tryz.ntmps49
  go_wp2_with (with_reducible refine wpList_make_full w rfl (.tmp 9) (.tmp 9) 37 rfl w.heap.size 50 i0 (.agg #[.int .i64 0, .int .i64 0, .int .i64 0, .slice none 0 0]) 4 hu hi hz0 hz1 .i64 .i64 n n n rfl rfl rfl rfl (by rw [hz2]; omega) (by unfold maxLen; omega) (Nat.le_refl _) ?_; intro w1 hown hgr)
  have hF := (ownsRow_fillR hown (flat 4 HPathPart.cell (List.replicate n default))).toP (g := flat 4 HPathPart.cell (List.replicate n default))
  have hB1 : Mk0 w w1 := Mk.of_below ((Below.refl _ _).grown hgr (Nat.le_refl _) (fun k hk => by cases hk))
  have hsz1 : w.heap.size < w1.heap.size := (hown.lt _ rfl).2
  clear hown hgr hu
  go_loopw [13] (fun i wr => ∃ (k : Nat) (gs : List HPathPart), k ≤ n ∧ i = .int .i64 k ∧ FillP wr w.heap.size (n * 4) (fun j => (n - k) * 4 ≤ j) (flat 4 HPathPart.cell gs) ∧ gs.length = n ∧ Hid (Kids WPathPart wr (w.heap.size + 1) wr.heap.size (fun q => q = w.heap.size) n gs ((List.range n).map fun q => if n - (k) ≤ q then RR.getD q default else default)) ∧ Mk0 w wr ∧ w.heap.size < wr.heap.size) (fun i _ => n - (intOf i).toNat)
  case atStart =>
    refine ⟨0, List.replicate n default, Nat.zero_le _, rfl, hF.mono (fun j hj hq => by simp at hq; omega), by simp, ⟨fun _ => w.heap.size + 1, fun _ => w.heap.size + 1, fun i j _ _ _ => .inl (Nat.le_refl _), fun i hi => ⟨Nat.le_refl _, Nat.le_refl _, hsz1, fun b hb => .inl (by have hb2 : b = w.heap.size := hb; show b < w.heap.size + 1; omega), ?_⟩⟩, hB1, hsz1⟩
    rw [show (List.replicate n (default : HPathPart)).getD i default = default by simp [List.getD_eq_getElem?_getD, hi], getD_map_range hi, if_neg (by omega)]
    exact own0PathPart _ _
  case round =>
    clear hF hB1 hsz1
    obtain ⟨k, gs, hk, rfl, hF, hgl, hK, hM, hszr⟩ := hrel
    by_cases hlt : k < n
    · obtain ⟨b, off, x, rfl, hb, hx, a3, n3, c3, d0, d1, d2, d3, hr, p1, p2, p3⟩ := HasPathPart.at _ _ _ _ _ _ (h.mk hM hB (.inr (Nat.le_refl _))) hlt
      have hbr := World.block_lt_of_cell? _ _ d0
      simp only at hbr
      obtain ⟨m, hm⟩ : ∃ m, Hid (n = m + k + 1) := ⟨n - 1 - k, by show n = n - 1 - k + k + 1; omega⟩
      have hmn : m < n := by have := hm.out; omega
      have hq : (n : Int) - 1 - (k : Int) = (m : Int) := by have := hm.out; omega
      have HG := Lib.hid (show RR.getD m default = g x by rw [hRR.out, turnL_at g zs n m hmn, show n - 1 - m = k by have := hm.out; omega, ← hx.out])
      have hbd : n3 ≤ 1048576 := by have h1 := szPathPart_at zs hlt; rw [← hx.out] at h1; unfold sePathPart at h1; have h2 : x.hops.length = n3 := hr.1; omega
      have hml : m * 4 + 4 ≤ n * 4 := by have : (m + 1) * 4 ≤ n * 4 := Nat.mul_le_mul_right _ hmn; rw [Nat.succ_mul] at this; exact this
      have MX := Mk.alloc wr (Obj.cells #[Value.int .i64 x.kind, Value.int .i64 x.ts, Value.int .i64 x.beta, Value.slice a3 n3 c3] 50)
      have hcl1 := HCL.out x a3 n3 c3 B (wr.alloc (Obj.cells #[Value.int .i64 x.kind, Value.int .i64 x.ts, Value.int .i64 x.beta, Value.slice a3 n3 c3] 50)) ((hr.mk MX (Nat.le_trans hB hM.size) (.inr (Nat.le_refl _)))) (Nat.le_trans hB (hM.trans MX).size) hbd p1 p2 p3
      have hen := HEN.out x a3 n3 c3
      go_wp2_with fail
      refine hcl1.mono ?_
      rintro e w2 ⟨A3, N3, C3, rfl, hc3, hO3, m2⟩
      clear hcl1 hen
      rw [World.size_alloc] at hO3
      have mY := MX.trans m2
      have hF2 := hF.keep mY
      have hsz2 := m2.size
      rw [World.size_alloc] at hsz2
      obtain ⟨G, hG⟩ : ∃ G : HPathPart, Hid (G = ⟨(g x).kind, (g x).ts, (g x).beta, A3, N3, C3⟩) := ⟨_, Lib.hid rfl⟩
      have hcg : FillP w2 w.heap.size (n * 4) (fun j => (n - k) * 4 ≤ j) (flat 4 HPathPart.cell (gs.set m G)) := fun j hj => by
        obtain ⟨v, v1, v2, v3⟩ := hF2 j hj
        refine ⟨v, v1, v2, fun hq => ?_⟩
        rw [v3 hq]
        unfold flat
        rw [getD_set_off (show j / 4 ≠ m from fun e => by have h1 := Nat.div_add_mod j 4; rw [e] at h1; have h2 := Nat.mod_lt j (show 0 < 4 by decide); have h3 := hm.out; simp only at hq; omega)]
      clear hF2 hF
      obtain ⟨v0, p0', f0⟩ := hcg.any (j := m * 4) (by omega)
      obtain ⟨v1, p1', f1⟩ := hcg.any (j := m * 4 + 1) (by omega)
      obtain ⟨v2, p2', f2⟩ := hcg.any (j := m * 4 + 2) (by omega)
      obtain ⟨v3, p3', f3⟩ := hcg.any (j := m * 4 + 3) (by omega)
      have hKx : WPathPart.kid w2 (wr.heap.size + 1) w2.heap.size G (g x) := by rw [hG.out]; exact ⟨rfl, rfl, rfl, hO3, hc3.2.1, hc3.2.2, hc3.1⟩
      have hK2 := ((hK.out.mk mY (Nat.le_refl _) (.inr (.inr (Nat.le_refl _)))).upd hmn hgl (by simp) (by omega) hsz2 hKx (by omega) (fun b hb => .inl (by have hb2 : b = w.heap.size := hb; omega)))
      have hLs : ((List.range n).map fun q => if n - (k + 1) ≤ q then RR.getD q default else default) = (((List.range n).map fun q => if n - (k) ≤ q then RR.getD q default else default)).set m (g x) := by
        refine List.ext_getElem (by simp) fun q h1 h2 => ?_
        simp only [List.getElem_set, List.getElem_map, List.getElem_range]
        by_cases e : m = q
        · subst e; rw [if_pos rfl, if_pos (by have := hm.out; omega), HG.out]
        · rw [if_neg e]
          by_cases e2 : n - k ≤ q
          · rw [if_pos e2, if_pos (by omega)]
          · rw [if_neg e2, if_neg (by have := hm.out; omega)]
      clear hKx hK hO3
      go_wp2_with fail
      go_roundw
      case rel =>
        refine ⟨k + 1, gs.set m G, by omega, by go_num, ((((hcg.set (m := m * 4) (by omega) (by rw [show m * 4 = m * 4 + 0 from rfl, flat_at (gs.set m G) m 0 (by omega), getD_set_at (by omega), hG.out]; rfl)).set (m := m * 4 + 1) (by omega) (by rw [flat_at (gs.set m G) m 1 (by omega), getD_set_at (by omega), hG.out]; rfl)).set (m := m * 4 + 2) (by omega) (by rw [flat_at (gs.set m G) m 2 (by omega), getD_set_at (by omega), hG.out]; rfl)).set (m := m * 4 + 3) (by omega) (by rw [flat_at (gs.set m G) m 3 (by omega), getD_set_at (by omega), hG.out]; rfl)).mono (fun j hj hq => ?_), by rw [List.length_set]; exact hgl, ?_, ((((hM.trans mY).put _ _ (Nat.le_refl _)).put _ _ (Nat.le_refl _)).put _ _ (Nat.le_refl _)).put _ _ (Nat.le_refl _), by simp only [World.size_set]; omega⟩
        · have h1 : m * 4 ≤ j := by rw [show n - (k + 1) = m by have := hm.out; omega] at hq; exact hq
          have h2 : n - k = m + 1 := by have := hm.out; omega
          rw [h2, Nat.succ_mul]
          omega
        · rw [hLs]
          exact Lib.hid (((((hK2.set _ _ (.inl rfl)).set _ _ (.inl rfl)).set _ _ (.inl rfl)).set _ _ (.inl rfl)).wide (Nat.le_refl _) (by simp only [World.size_set]; exact Nat.le_refl _))
      case measure => simp [intOf]; omega
    · obtain rfl : k = n := by omega
      go_wp2_with fail
      go_ret
      have hA := (hF.mono (q := fun _ => True) (fun j hj _ => by simp)).all
      have hL : ((List.range k).map fun q => if k - (k) ≤ q then RR.getD q default else default) = RR := by
        refine List.ext_getElem (by simp [hRl]) fun q h1 h2 => ?_
        simp only [List.getElem_map, List.getElem_range]
        rw [if_pos (by omega), List.getD_eq_getElem?_getD, List.getElem?_eq_getElem h2]
        rfl
      rw [hL] at hK
      refine ⟨_, k, k, rfl, ⟨(fun h => by cases h), Nat.le_refl _, by omega⟩, ?_, hM⟩
      exact (OwnN.of_own (hA.ownR (nc := 4) (cell := HPathPart.cell) hgl (fun i hi j hj => flat_at _ _ _ hj) (Nat.le_refl _) (Nat.lt_succ_self _) (by decide)) ⟨Nat.le_refl _, hszr⟩ (hK.out.wide (Nat.le_succ _) (Nat.le_refl _)) hRl)

end Go.Proofs.YtifhhfndoifbhaaGreat
namespace Go.Proofs.YtifhhfndoifbhaaGreat
open Go.ChangeShapes Go.WideShapes Go.ChangeAt Go.RowKit
set_option linter.unusedVariables false
def turnPt (x : TPathPart) : TPathPart := ⟨rkV x.kind, x.ts, afterV x.kind x.beta x.hops x.hops.length (x.hops.length : Int), turnP x.hops x.hops.length⟩
theorem turnPt_se (x : TPathPart) : sePathPart (turnPt x) = sePathPart x := by
  unfold sePathPart turnPt turnP
  show (turnL (fun x => x) x.hops x.hops.length).length = _
  exact turnL_len _ _ _
theorem turnPt_sum (zs : List TPathPart) (n : Nat) : sumTo sePathPart (turnL turnPt zs n) n = sumTo sePathPart zs n := by
  have h : ∀ k, k ≤ n → sumTo sePathPart (turnL turnPt zs n) k + sumTo sePathPart zs (n - k) = sumTo sePathPart zs n := by
    intro k
    induction k with
    | zero => intro _; simp [sumTo]
    | succ k ih =>
      intro hk
      have h1 := ih (by omega)
      rw [sumTo, turnL_at _ _ _ _ (by omega), turnPt_se]
      have h2 : n - k = (n - 1 - k) + 1 := by omega
      rw [h2, sumTo] at h1
      rw [show n - (k + 1) = n - 1 - k by omega]
      omega
  have := h n (Nat.le_refl _)
  rw [Nat.sub_self] at this
  simpa [sumTo] using this
theorem turnPt_sz (zs : List TPathPart) (n : Nat) : szPathPart (turnL turnPt zs n) n = szPathPart zs n := by unfold szPathPart; rw [turnPt_sum]
set_option maxRecDepth 100000 in
set_option maxHeartbeats 8000000 in
theorem specRevPath (a : Option Addr) (n c B : Nat) (zs : List TPathPart) (w : World) (h : HasPathPart w B a n zs) (hB : B ≤ w.heap.size) (hs : szPathPart zs n ≤ 1048576) (hnc : n ≤ c) :
    Calls Tryz.prog 30 #[.agg #[.slice a n c]] w (OutNPath (turnL turnPt zs n) w) := by
  have M0 : Mk0 w ((w.alloc (Obj.cells #[Value.slice a n c] 39)).alloc (Obj.cells #[Value.slice none 0 0] 39)) := ((Mk.alloc w (Obj.cells #[Value.slice a n c] 39)).new (Obj.cells #[Value.slice none 0 0] 39))
  have k0 : ((w.alloc (Obj.cells #[Value.slice a n c] 39)).alloc (Obj.cells #[Value.slice none 0 0] 39)).cell? ⟨w.heap.size, 0, none⟩ = some (.slice a n c) := by simp [go_sem]
  have r0 : ((w.alloc (Obj.cells #[Value.slice a n c] 39)).alloc (Obj.cells #[Value.slice none 0 0] 39)).cell? ⟨w.heap.size + 1, 0, none⟩ = some (.slice none 0 0) := by simp [go_sem]
  have hs0 : ((w.alloc (Obj.cells #[Value.slice a n c] 39)).alloc (Obj.cells #[Value.slice none 0 0] 39)).heap.size = w.heap.size + 1 + 1 := by simp only [World.size_alloc]
  have hn : n ≤ 1048576 := Nat.le_trans (szPathPart_n zs n) hs
  obtain ⟨i0, hi0, hz0, hz1, hz2⟩ := info_parts infoRPathPart
  have K0 := Lib.hid k0
  have R0 := Lib.hid r0
  have FR : Hid (∀ q, ((w.alloc (Obj.cells #[Value.slice a n c] 39)).alloc (Obj.cells #[Value.slice none 0 0] 39)).frozen? ⟨w.heap.size + 1, q, none⟩ = false) := Lib.hid (fun q => by simp [go_sem])
  clear k0 r0
  go_enter Tryz.func30, Tryz.ntmps30
  go_wp2_with fail
  have q0 : (((w.alloc (Obj.cells #[Value.slice a n c] 39)).alloc (Obj.cells #[Value.slice none 0 0] 39)).alloc (Obj.cells #[Value.slice none 0 0] 39)).cell? ⟨w.heap.size + 1 + 1, 0, none⟩ = some (.slice none 0 0) := by simp [go_sem]
  have fq : ∀ q, (((w.alloc (Obj.cells #[Value.slice a n c] 39)).alloc (Obj.cells #[Value.slice none 0 0] 39)).alloc (Obj.cells #[Value.slice none 0 0] 39)).frozen? ⟨w.heap.size + 1 + 1, q, none⟩ = false := fun q => by simp [go_sem]
  have ML : Mk0 ((w.alloc (Obj.cells #[Value.slice a n c] 39)).alloc (Obj.cells #[Value.slice none 0 0] 39)) (((w.alloc (Obj.cells #[Value.slice a n c] 39)).alloc (Obj.cells #[Value.slice none 0 0] 39)).alloc (Obj.cells #[Value.slice none 0 0] 39)) := Mk.alloc _ _
  have hsL : w.heap.size + 1 + 1 + 1 ≤ (((w.alloc (Obj.cells #[Value.slice a n c] 39)).alloc (Obj.cells #[Value.slice none 0 0] 39)).alloc (Obj.cells #[Value.slice none 0 0] 39)).heap.size := by rw [World.size_alloc, hs0]; exact Nat.le_refl _
  generalize (((w.alloc (Obj.cells #[Value.slice a n c] 39)).alloc (Obj.cells #[Value.slice none 0 0] 39)).alloc (Obj.cells #[Value.slice none 0 0] 39)) = wL at *
  generalize ((w.alloc (Obj.cells #[Value.slice a n c] 39)).alloc (Obj.cells #[Value.slice none 0 0] 39)) = wb at *
  go_loopw [4] (fun i wr => ∃ (k : Nat) (A : Option Addr) (C : Nat) (gs : List HPathPart), k ≤ n ∧ i = .int .i64 ((n : Int) - 1 - (k : Int)) ∧ (wr.cell? ⟨w.heap.size + 1 + 1, 0, none⟩ = some (.slice A k C) ∧ ∀ q, wr.frozen? ⟨w.heap.size + 1 + 1, q, none⟩ = false) ∧ wr.ownsRow (w.heap.size + 1 + 1 + 1) 50 4 (.slice A k C) k (rowC 4 HPathPart.cell gs) ∧ Hid (Kids WPathPart wr (w.heap.size + 1 + 1 + 1) wr.heap.size (fun g => (Value.slice A k C).ownBlock = some g) k gs ((turnL turnPt zs n).take k)) ∧ Mk0 wb wr ∧ w.heap.size + 1 + 1 + 1 ≤ wr.heap.size) (fun i _ => (intOf i + 1).toNat)
  case atStart => exact ⟨0, none, 0, [], Nat.zero_le _, by simp, ⟨q0, fq⟩, own_nilR _ _ _ _, Kids.none_ _ _ _ _ _ _ _, ML, hsL⟩
  case round =>
    clear q0 fq ML hsL
    obtain ⟨k, A, C, gs, hk, rfl, ⟨q0, fq⟩, hown, hK, hM, hsz⟩ := hrel
    have k0 := hM.cellAt K0.out
    have hMW := M0.trans hM
    by_cases hlt : k < n
    · obtain ⟨m, hm⟩ : ∃ m, Hid (n = m + k + 1) := ⟨n - 1 - k, by show n = n - 1 - k + k + 1; omega⟩
      have hmn : m < n := by have := hm.out; omega
      rw [show (n : Int) - 1 - (k : Int) = (m : Int) by have := hm.out; omega]
      obtain ⟨b, off, x, rfl, hb, hx, a3, n3, c3, c0, c1, c2, c3', hr, p1, p2, p3⟩ := HasPathPart.at _ _ _ _ _ _ (h.mk hMW hB (.inr (Nat.le_refl _))) hmn
      have hn3 : x.hops.length = n3 := hr.1
      have hn3b : n3 ≤ 1048576 := by have h1 := szPathPart_at zs hmn; rw [← hx.out] at h1; unfold sePathPart at h1; omega
      have hbr := World.block_lt_of_cell? _ _ c0
      simp only at hbr
      have HT := Lib.hid (show (turnL turnPt zs n).take (k + 1) = (turnL turnPt zs n).take k ++ [turnPt x] by rw [turnL_take _ _ _ _ hlt, hx.out, show n - 1 - k = m by have := hm.out; omega])
      have HX : Hid (turnPt x = ⟨rkV x.kind, x.ts, afterV x.kind x.beta x.hops n3 (n3 : Int), turnP x.hops n3⟩) := by subst hn3; exact Lib.hid rfl
      obtain ⟨β, hβ⟩ : ∃ β, Hid (β = afterV x.kind x.beta x.hops n3 (n3 : Int)) := ⟨_, Lib.hid rfl⟩
      have KP := specRevPt x.kind x.ts x.beta a3 n3 c3 _ x.hops wr hr (Nat.le_trans hB hMW.size) hn3b p1
      rw [← hβ.out] at KP HX
      have i1 : (0 : Int) ≤ (m : Int) := by omega
      have i2 : (m : Int) < (n : Int) := by omega
      go_wp2_with fail
      refine KP.mono ?_
      rintro e w2 ⟨A3, N3, C3, rfl, hc3, hO3, m2⟩
      clear KP
      have mA := Mk.alloc w2 (Obj.cells #[Value.int .i64 (rkV x.kind), Value.int .i64 x.ts, Value.int .i64 β, Value.slice A3 N3 C3] 50)
      have mB := Mk.alloc (w2.alloc (Obj.cells #[Value.int .i64 (rkV x.kind), Value.int .i64 x.ts, Value.int .i64 β, Value.slice A3 N3 C3] 50)) (Obj.cells #[.int .i64 (rkV x.kind), .int .i64 x.ts, .int .i64 β, .slice A3 N3 C3] 50)
      have mY := (m2.trans mA).trans mB
      replace q0 := (m2.trans mA).cellAt q0
      have fqB : ∀ q, wr.frozen? ⟨w.heap.size + 1 + 1, q, none⟩ = false := fq
      replace fq := fun q => (mY.frozen (b := w.heap.size + 1 + 1) (o := q) (by omega) (.inr (Nat.zero_le _))).trans (fq q)
      have e0 : (w2.alloc (Obj.cells #[Value.int .i64 (rkV x.kind), Value.int .i64 x.ts, Value.int .i64 β, Value.slice A3 N3 C3] 50)).cell? ⟨w2.heap.size, 0, none⟩ = some (.int .i64 (rkV x.kind)) := by simp [go_sem]
      have e1 : (w2.alloc (Obj.cells #[Value.int .i64 (rkV x.kind), Value.int .i64 x.ts, Value.int .i64 β, Value.slice A3 N3 C3] 50)).cell? ⟨w2.heap.size, 1, none⟩ = some (.int .i64 x.ts) := by simp [go_sem]
      have e2 : (w2.alloc (Obj.cells #[Value.int .i64 (rkV x.kind), Value.int .i64 x.ts, Value.int .i64 β, Value.slice A3 N3 C3] 50)).cell? ⟨w2.heap.size, 2, none⟩ = some (.int .i64 β) := by simp [go_sem]
      have e3 : (w2.alloc (Obj.cells #[Value.int .i64 (rkV x.kind), Value.int .i64 x.ts, Value.int .i64 β, Value.slice A3 N3 C3] 50)).cell? ⟨w2.heap.size, 3, none⟩ = some (.slice A3 N3 C3) := by simp [go_sem]
      have hown2 := own_keptR hown mY
      have hszY := mY.size
      have hh := hasR_new (cell := HPathPart.cell) (nc := 4) (by decide) (w2.alloc (Obj.cells #[Value.int .i64 (rkV x.kind), Value.int .i64 x.ts, Value.int .i64 β, Value.slice A3 N3 C3] 50)) 50 (⟨rkV x.kind, x.ts, β, A3, N3, C3⟩ : HPathPart) #[.int .i64 (rkV x.kind), .int .i64 x.ts, .int .i64 β, .slice A3 N3 C3] (fun j hj => by match j, hj with | 0, _ => rfl | 1, _ => rfl | 2, _ => rfl | 3, _ => rfl)
      rw [World.size_alloc w2] at hh
      have hlo : w.heap.size + 1 + 1 + 1 ≤ ((w2.alloc (Obj.cells #[Value.int .i64 (rkV x.kind), Value.int .i64 x.ts, Value.int .i64 β, Value.slice A3 N3 C3] 50)).alloc (Obj.cells #[.int .i64 (rkV x.kind), .int .i64 x.ts, .int .i64 β, .slice A3 N3 C3] 50)).heap.size := Nat.le_trans hsz hszY
      have q0' := mB.cellAt q0
      have hK2 := Lib.hid ((((hK.out.mk m2 (Nat.le_refl _) (.inr (.inr (Nat.le_refl _)))).snoc (g := (⟨rkV x.kind, x.ts, β, A3, N3, C3⟩ : HPathPart)) (x := turnPt x) (ownsRow_lenR (by decide) hown) (by simp [turnL_len]; omega) hsz m2.size (by rw [HX.out]; exact ⟨rfl, rfl, rfl, hO3, hc3.2.1, hc3.2.2, hc3.1⟩) (Nat.le_refl _) (fun q hq => .inl (hown.lt q hq).2)).mk mA (Nat.le_refl _) (.inr (.inr (Nat.le_refl _)))).mk mB mA.size (.inr (.inr (Nat.le_refl _))))
      clear hO3 hK hown
      go_wp2_with (at_builtin; refine wpList_appR4 (by decide) onePathPart rfl (.tmp 22) (.tmp 24) 37 rfl (w.heap.size + 1 + 1 + 1) 50 i0 _ Tryz.underlying37 hi0 hz0 rfl hz1 (by rw [hz2]; decide) _ gs k rfl hown2 _ 1 1 [(⟨rkV x.kind, x.ts, β, A3, N3, C3⟩ : HPathPart)] rfl (fun h => by cases h) hh (by omega) hlo ?_; intro v2 w4 hown4 hgr hat; have hne : ∀ q, (Value.slice A k C).ownBlock = some q → q ≠ w.heap.size + 1 + 1 := fun q e => (by have := (hown2.lt q e).1; omega); have p3 := grown_cell q0' hgr hne; have pf := fun q => grown_frz (fq q) (World.block_lt_of_cell? _ _ q0') hgr hne; obtain ⟨A2, C2, rfl, hca2, hcb2⟩ := ownsRow_sliceR2 hown4)
      have M4 := (hM.trans mY).appR hgr (fun g hg => by have := (hown2.lt g hg).1; omega)
      have z4 := hgr.size
      have zA := mA.size
      have zB := mB.size
      have hK4 := hK2.out.grow hgr (Nat.le_trans mA.size mB.size) hat
      clear hK2 hat
      go_roundw
      case rel => exact ⟨k + 1, A2, C2, gs ++ [(⟨rkV x.kind, x.ts, β, A3, N3, C3⟩ : HPathPart)], by omega, congrArg (Value.int .i64) (by have := hm.out; omega), ⟨World.cell?_setCell_same _ _ _ p3, fun q => frozen_set (pf q) _ _⟩, own_put hown4 _ _ (Nat.lt_succ_self _), by rw [HT.out]; exact Lib.hid ((hK4.set _ _ (.inr (.inl (Nat.lt_succ_self _)))).wide (Nat.le_refl _) (by simp only [World.size_set]; omega)), M4.put _ _ (by rw [hs0]; exact Nat.le_refl _), by simp only [World.size_set]; omega⟩
      case measure => first | (simp [intOf]; done) | (simp [intOf]; omega)
    · obtain rfl : k = n := by omega
      rw [show (k : Int) - 1 - (k : Int) = -1 by omega]
      have r0 := hM.cellAt R0.out
      have hbQ := hM.size
      have fr : ∀ q, wr.frozen? ⟨w.heap.size + 1, q, none⟩ = false := fun q => (hM.frozen (b := w.heap.size + 1) (o := q) (by omega) (.inr (Nat.zero_le _))).trans (FR.out q)
      have ht : (turnL turnPt zs k).take k = turnL turnPt zs k := List.take_of_length_le (by rw [turnL_len]; exact Nat.le_refl _)
      rw [ht] at hK
      obtain ⟨_, _, e9, hca, hcb⟩ := ownsRow_sliceR2 hown
      cases e9
      have HO := Lib.hid (OwnN.of_row hown hK.out (turnL_len _ _ _) (Nat.le_refl _))
      clear hK hown
      go_wp2_with fail
      replace r0 := World.cell?_setCell_same _ _ (.slice A k C) r0
      refine bodyPost_ret (v := .agg #[.slice A k C]) (by simp [results, Tryz.results30, go_sem, r0]) rfl ⟨A, k, C, rfl, ⟨hca, hcb⟩, ?_, hMW.put _ _ (by simp)⟩
      exact (HO.out.set ⟨w.heap.size + 1, 0, none⟩ (.slice A k C) (.inl (by simp only; omega))).wide (by omega) (by simp only [World.size_set]; exact Nat.le_refl _)

set_option maxRecDepth 100000 in
set_option maxHeartbeats 8000000 in
theorem implRevPath (a : Option Addr) (n c B : Nat) (zs : List TPathPart) (w : World) (h : HasPathPart w B a n zs) (hB : B ≤ w.heap.size) (hs : szPathPart zs n ≤ 1048576) (hnc : n ≤ c) :
    Calls Tryz.prog 31 #[.agg #[.slice a n c]] w (OutNPath (turnL turnPt zs n) w) := by
  have M0 : Mk0 w ((w.alloc (Obj.cells #[Value.slice a n c] 39)).alloc (Obj.cells #[Value.slice none 0 0] 39)) := ((Mk.alloc w (Obj.cells #[Value.slice a n c] 39)).new (Obj.cells #[Value.slice none 0 0] 39))
  have k0 : ((w.alloc (Obj.cells #[Value.slice a n c] 39)).alloc (Obj.cells #[Value.slice none 0 0] 39)).cell? ⟨w.heap.size, 0, none⟩ = some (.slice a n c) := by simp [go_sem]
  have r0 : ((w.alloc (Obj.cells #[Value.slice a n c] 39)).alloc (Obj.cells #[Value.slice none 0 0] 39)).cell? ⟨w.heap.size + 1, 0, none⟩ = some (.slice none 0 0) := by simp [go_sem]
  have hs0 : ((w.alloc (Obj.cells #[Value.slice a n c] 39)).alloc (Obj.cells #[Value.slice none 0 0] 39)).heap.size = w.heap.size + 1 + 1 := by simp only [World.size_alloc]
  have FR : ∀ q, ((w.alloc (Obj.cells #[Value.slice a n c] 39)).alloc (Obj.cells #[Value.slice none 0 0] 39)).frozen? ⟨w.heap.size + 1, q, none⟩ = false := fun q => by simp [go_sem]
  go_enter Tryz.func31, Tryz.ntmps31
  go_wp2_with fail
  generalize ((w.alloc (Obj.cells #[Value.slice a n c] 39)).alloc (Obj.cells #[Value.slice none 0 0] 39)) = wb at *
  refine (turnedPathPart turnPt 50 a n c B zs wb (h.mk M0 hB (.inr (Nat.le_refl _))) (Nat.le_trans hB M0.size) hs (fun _ _ _ _ _ => rfl) (fun x a3 n3 c3 B1 w1 hr hB1 hb p1 p2 p3 => ?_)).mono ?_
  · obtain rfl := hr.1
    exact implRevPt x.kind x.ts x.beta a3 _ c3 B1 x.hops w1 hr hB1 hb p1
  · rintro e w2 ⟨A, N, C, rfl, hc, hO, m2⟩
    replace r0 := m2.cellAt r0
    have fr2 : ∀ q, w2.frozen? ⟨w.heap.size + 1, q, none⟩ = false := fun q => (m2.frozen (b := w.heap.size + 1) (o := q) (by omega) (.inr (Nat.zero_le _))).trans (FR q)
    have MF := M0.trans m2
    go_wp2_with fail
    replace r0 := World.cell?_setCell_same _ _ (.slice A N C) r0
    refine bodyPost_ret (v := .agg #[.slice A N C]) (by simp [results, Tryz.results31, go_sem, r0]) rfl ⟨A, N, C, rfl, hc, ?_, MF.put _ _ (by simp)⟩
    exact (hO.set ⟨w.heap.size + 1, 0, none⟩ (.slice A N C) (.inl (by simp only; omega))).wide (by omega) (by simp only [World.size_set]; exact Nat.le_refl _)

end Go.Proofs.YtifhhfndoifbhaaGreat
namespace Go.Proofs.YtifhhfndoifbhaaGreat
open Go
set_option linter.unusedVariables false
section
variable {P : Program} {ops : Array Oper} {Q : Exit → Act → World → Prop} {S : World → Prop} {F : Nat → Value → World → Prop}
def valAt (ops : Array Oper) (a : Act) (j : Nat) : Value := match (ops[j]?).bind (·.dst) with | some d => a.tmps.getD d undef | none => undef
def edgeB (o : Oper) (j : Nat) : Bool := o.after.toList.any fun e => Region.binds .any e && e.on == j
/-- From kt on each operation waits for all ahead of kt. -/
def tailOk (ops : Array Oper) (kt : Nat) : Bool := (List.range ops.size).all fun i => decide (i < kt) || (List.range kt).all fun k => waits ops ops.size i k
theorem tailOk_at {kt i k : Nat} (h : tailOk ops kt = true) (hi : i < ops.size) (hk : kt ≤ i) (hj : k < kt) : waits ops ops.size i k = true := by
  unfold tailOk at h
  rw [List.all_eq_true] at h
  have h1 := h i (List.mem_range.2 hi)
  simp only [Bool.or_eq_true, decide_eq_true_eq] at h1
  rcases h1 with h1 | h1
  · omega
  · rw [List.all_eq_true] at h1
    exact h1 k (List.mem_range.2 hj)
/-- What a step owes. -/
def StepK (P : Program) (ops : Array Oper) (S : World → Prop) (F : Nat → Value → World → Prop) (k : Nat) (o : Oper) (a : Act) : Prop :=
  ∀ w, S w → (∀ j, edgeB o j = true → F j (valAt ops a j) w) →
    Region.wanted o (yielded ops a.tmps) = true ∧ o.wp P a w (fun a' w' => a'.defers = a.defers ∧ S w' ∧ Mk0 w w' ∧ ∃ u, a' = a.put o.dst u ∧ F k (valAt ops (a.put o.dst u) k) w') noOut
def WkF (P : Program) (ops : Array Oper) (T : Act → World → Prop) (S : World → Prop) (F : Nat → Value → World → Prop) (kt : Nat) : Nat → Nat → Act → Prop
  | 0, _, a => ∀ w, S w → (∀ j, j < kt → F j (valAt ops a j) w) → T a w
  | m + 1, k, a => ∃ o, ops[k]? = some o ∧ StepK P ops S F k o a ∧ ∀ v, WkF P ops T S F kt m (k + 1) (a.put o.dst v)
section
variable {T : Act → World → Prop} {kt m k : Nat} {a : Act} {o : Oper}
theorem valAt_put {d : Tmp} {u : Value} (ho : ops[k]? = some o) (hd : o.dst = some d) (hlt : d < a.tmps.size) : valAt ops (a.put o.dst u) k = u := by
  unfold valAt
  rw [ho]
  simp [hd, Act.put, Array.getD, hlt]
theorem WkF.value {d : Tmp} (ho : ops[k]? = some o) (hd : o.dst = some d) (hlt : d < a.tmps.size) (hg : o.guard = none)
    (hv : ∀ w, S w → (∀ j, edgeB o j = true → F j (valAt ops a j) w) → ∃ v w', (execOp a.eval o).run P w = .ok (.value v) w' ∧ S w' ∧ Mk0 w w' ∧ F k v w')
    (h : ∀ v, WkF P ops T S F kt m (k + 1) (a.put o.dst v)) : WkF P ops T S F kt (m + 1) k a :=
  ⟨o, ho, fun w hS hF => ⟨by simp [Region.wanted, hg], by
    obtain ⟨v, w', he, hS', hM, hF'⟩ := hv w hS hF
    unfold Oper.wp
    rw [he]
    exact ⟨put_defers, hS', hM, v, rfl, by rw [valAt_put ho hd hlt]; exact hF'⟩⟩, h⟩
theorem WkF.call {d : Tmp} (ho : ops[k]? = some o) (hd : o.dst = some d) (hlt : d < a.tmps.size) (hg : o.guard = none)
    (hv : ∀ w, S w → (∀ j, edgeB o j = true → F j (valAt ops a j) w) → ∃ f args, (execOp a.eval o).run P w = .ok (.enter f args) w ∧ Calls P f args w fun e w' => ∃ v, e = .returned v ∧ S w' ∧ Mk0 w w' ∧ F k v w')
    (h : ∀ v, WkF P ops T S F kt m (k + 1) (a.put o.dst v)) : WkF P ops T S F kt (m + 1) k a :=
  ⟨o, ho, fun w hS hF => ⟨by simp [Region.wanted, hg], by
    obtain ⟨f, args, he, hc⟩ := hv w hS hF
    unfold Oper.wp
    rw [he]
    refine Calls.mono hc ?_
    rintro e w' ⟨v, rfl, hS', hM, hF'⟩
    exact ⟨put_defers, hS', hM, v, rfl, by rw [valAt_put ho hd hlt]; exact hF'⟩⟩, h⟩
theorem WkF.done (h : ∀ w, S w → (∀ j, j < kt → F j (valAt ops a j) w) → T a w) : WkF P ops T S F kt 0 k a := h
end

/-- b is as a, but for what listed operations from k on have written. -/
structure Agr (ops : Array Oper) (listed : Array Bool) (k : Nat) (b a : Act) : Prop where
  size : b.tmps.size = a.tmps.size
  defers : b.defers = a.defers
  at_ : ∀ t, (∀ i o, k ≤ i → ops[i]? = some o → listed.getD i true = true → o.dst ≠ some t) → b.tmps[t]? = a.tmps[t]?

theorem agr_put {listed : Array Bool} {k : Nat} {b a : Act} {o : Oper} (ho : ops[k]? = some o) (h : Agr ops listed k b a) : Agr ops listed (k + 1) (b.put o.dst (valAt ops a k)) a := by
  refine ⟨by rw [put_size]; exact h.size, by rw [put_defers]; exact h.defers, fun t ht => ?_⟩
  by_cases hd : o.dst = some t
  · have hs := h.size
    unfold valAt
    rw [ho]
    simp only [hd, Option.bind_some, Act.put]
    rw [Array.getElem?_setIfInBounds, if_pos rfl]
    by_cases hlt : t < b.tmps.size
    · have h9 : t < a.tmps.size := hs ▸ hlt
      rw [if_pos hlt]
      simp [Array.getD, h9]
    · have h9 : ¬ t < a.tmps.size := hs ▸ hlt
      rw [if_neg hlt]
      exact (Array.getElem?_eq_none (xs := a.tmps) (Nat.le_of_not_lt h9)).symm
  · rw [put_other hd]
    refine h.at_ t fun i oi hi hoi hl => ?_
    by_cases e : i = k
    · subst e
      rw [ho] at hoi
      injection hoi with hoi
      subst hoi
      exact hd
    · exact ht i oi (by omega) hoi hl

theorem agr_look (hok : regOkT ops ops.size = true) {listed : Array Bool} {k : Nat} {b a : Act} {o : Oper} (ho : ops[k]? = some o) (h : Agr ops listed k b a) : ∀ t ∈ o.looksAt ops, b.tmps[t]? = a.tmps[t]? := by
  obtain ⟨q1, q2, q3⟩ := regOkT_at hok ho
  intro t ht
  refine h.at_ t fun i oi hi hoi _ hd => ?_
  by_cases e : i = k
  · subst e
    rw [ho] at hoi
    injection hoi with hoi
    subst hoi
    exact q2 t hd ht
  · rcases (q3 i oi t e hoi hd).2 ht with ⟨e1, he, hb, heq⟩ | ⟨_, h6, _⟩
    · have := q1 e1 he hb
      omega
    · have := (Array.getElem?_eq_some_iff.1 hoi).1
      omega

/-- The step at the frame that is there. -/
theorem stepK_to (hok : regOkT ops ops.size = true) {listed : Array Bool} {k : Nat} {b a : Act} {o : Oper} (ho : ops[k]? = some o) (h : Agr ops listed k b a) (hst : StepK P ops S F k o b)
    (hj : ∀ j, edgeB o j = true → j < k) {w : World} {K : Act → World → Prop} (hS : S w) (hF : ∀ j, edgeB o j = true → F j (valAt ops a j) w)
    (hK : ∀ u w', S w' → Mk0 w w' → F k (valAt ops (a.put o.dst u) k) w' → K (a.put o.dst u) w') :
    Region.wanted o (yielded ops a.tmps) = true ∧ o.wp P a w K Q := by
  obtain ⟨hev, hw⟩ := same_exec hok ho (agr_look hok ho h)
  have hval : ∀ j, j < k → valAt ops b j = valAt ops a j := by
    intro j hjk
    unfold valAt
    cases ho' : ops[j]? with
    | none => rfl
    | some oj =>
      cases hd : oj.dst with
      | none => simp [hd]
      | some d =>
        simp only [Option.bind_some, hd]
        have := h.at_ d fun i oi hi hoi _ hdi => ((regOkT_at hok ho').2.2 i oi d (by omega) hoi hdi).1 hd
        simp only [Array.getD_eq_getD_getElem?, this]
  have hvalk : ∀ u, valAt ops (b.put o.dst u) k = valAt ops (a.put o.dst u) k := by
    intro u
    unfold valAt
    rw [ho]
    cases hd : o.dst with
    | none => simp [hd]
    | some d =>
      have hs := h.size
      simp only [Option.bind_some, hd, Act.put, Array.getD_eq_getD_getElem?]
      rw [Array.getElem?_setIfInBounds, Array.getElem?_setIfInBounds, if_pos rfl, if_pos rfl, hs]
  obtain ⟨h1, h2⟩ := hst w hS (fun j hjb => by rw [hval j (hj j hjb)]; exact hF j hjb)
  refine ⟨by rw [← hw]; exact h1, ?_⟩
  have next : ∀ u w', (S w' ∧ Mk0 w w' ∧ ∃ u', b.put o.dst u = b.put o.dst u' ∧ F k (valAt ops (b.put o.dst u') k) w') → K (a.put o.dst u) w' := by
    rintro u w' ⟨hS', hM, u', hu, hF'⟩
    refine hK u w' hS' hM ?_
    rw [← hvalk, hu]
    exact hF'
  unfold Oper.wp at *
  rw [← hev]
  revert h2
  generalize (execOp b.eval o).run P w = r
  intro h2
  cases r with
  | ok n w' =>
    cases n with
    | value u => exact next u w' h2.2
    | skip => exact next undef w' h2.2
    | defer d =>
      have h3 : (({ b with defers := d :: b.defers } : Act).put o.dst undef).defers = b.defers := h2.1
      have h4 : (({ b with defers := d :: b.defers } : Act).put o.dst undef).defers = d :: b.defers := by cases o.dst <;> rfl
      rw [h4] at h3
      have := congrArg List.length h3
      simp at this
    | enter f args =>
      refine Calls.mono (show Calls P f args w' _ from h2) fun e w'' he => ?_
      cases e with
      | returned u => exact next u w'' he.2
      | panicked c => exact (he : False).elim
      | outgrown =>
        obtain ⟨_, _, hf⟩ := (he : LetsOut noOut)
        exact (hf : False).elim
    | row row args => exact Rows.mono (show Rows P row args w' _ from h2) fun u w'' he => next u w'' he.2
    | _ => exact (h2 : False).elim
  | halt x w' => cases x <;> exact (h2 : False).elim

theorem edge_lt (hok : regOkT ops ops.size = true) {k : Nat} {o : Oper} (ho : ops[k]? = some o) (j : Nat) (h : edgeB o j = true) : j < k := by
  unfold edgeB at h
  obtain ⟨e, he, hb⟩ := List.any_eq_true.1 h
  simp only [Bool.and_eq_true, beq_iff_eq] at hb
  have := (regOkT_at hok ho).1 e (Array.mem_toList_iff.1 he) hb.1
  omega

theorem wkf_at (hok : regOkT ops ops.size = true) {T : Act → World → Prop} {kt : Nat} {listed : Array Bool} {a : Act} : ∀ (m k : Nat) (b : Act), k + m = kt → WkF P ops T S F kt m k b → Agr ops listed k b a →
    (∀ i, k ≤ i → i < kt → ∃ bi o, ops[i]? = some o ∧ Agr ops listed i bi a ∧ StepK P ops S F i o bi) ∧ ∃ bE, Agr ops listed kt bE a ∧ ∀ w, S w → (∀ j, j < kt → F j (valAt ops bE j) w) → T bE w
  | 0, k, b, hk, h, hag => ⟨fun i h1 h2 => by omega, b, by rw [← hk]; exact hag, h⟩
  | m + 1, k, b, hk, ⟨o, ho, hst, h⟩, hag => by
    obtain ⟨h1, h2⟩ := wkf_at hok m (k + 1) _ (by omega) (h (valAt ops a k)) (agr_put ho hag)
    refine ⟨fun i hi hlt => ?_, h2⟩
    by_cases e : i = k
    · subst e; exact ⟨b, o, ho, hag, hst⟩
    · exact h1 i (by omega) hlt

def lst (n kt : Nat) : Array Bool := ((List.range n).map fun i => decide (i < kt)).toArray

theorem wpAny_f (hok : regOkT ops ops.size = true) {kt : Nat} (hkt : kt ≤ ops.size) (htl : tailOk ops kt = true) (hmono : ∀ k v w w', F k v w → Mk0 w w' → F k v w') {a0 : Act}
    (hW : WkF P ops (wpAny P .any ops Q (ops.size - kt) (lst ops.size kt)) S F kt kt 0 a0) :
    ∀ (fuel : Nat) (listed : Array Bool) (a : Act) (w : World), listed.size = ops.size → (List.range ops.size).countP (fun i => !listed.getD i true) = fuel →
      Shut ops listed → (∀ i, kt ≤ i → i < ops.size → listed.getD i true = false) → Agr ops listed 0 a0 a → S w → (∀ j, j < kt → listed.getD j true = true → F j (valAt ops a j) w) → wpAny P .any ops Q fuel listed a w := by
  intro fuel
  induction fuel with
  | zero =>
    intro listed a w hsz hc hsh hlate hag hS hF
    have hall : ∀ i, i < ops.size → listed.getD i true = true := by
      intro i hi
      rw [List.countP_eq_zero] at hc
      simpa using hc i (List.mem_range.2 hi)
    have hk : kt = ops.size := by
      rcases Nat.lt_or_ge kt ops.size with h | h
      · have h1 := hlate kt (Nat.le_refl _) h
        rw [hall kt h] at h1
        cases h1
      · omega
    obtain ⟨_, bE, hE, hT⟩ := wkf_at hok kt 0 a0 (by omega) hW hag
    have hbE : bE = a := by
      obtain ⟨t1, d1⟩ := bE
      obtain ⟨t2, d2⟩ := a
      have h2 : d1 = d2 := hE.defers
      subst h2
      congr
      refine Array.ext_getElem? fun t => ?_
      exact hE.at_ t fun i o hi ho hl hd => by have := (Array.getElem?_eq_some_iff.1 ho).1; omega
    subst hbE
    have h3 := hT w hS (fun j hj => hF j hj (hall j (by omega)))
    have hl2 : listed = lst ops.size kt := by
      refine Array.ext (by simp [lst, hsz]) fun i h1 h2 => ?_
      have h5 := hall i (by omega)
      have h6 : listed[i] = true := by simpa [Array.getD, h1] using h5
      rw [h6]
      simp [lst]
      omega
    rw [hl2]
    rw [show ops.size - kt = 0 by omega] at h3
    exact h3
  | succ fuel ih =>
    intro listed a w hsz hc hsh hlate hag hS hF
    by_cases hdone : ∀ j, j < kt → listed.getD j true = true
    · obtain ⟨_, bE, hE, hT⟩ := wkf_at hok kt 0 a0 (by omega) hW hag
      have hbE : bE = a := by
        obtain ⟨t1, d1⟩ := bE
        obtain ⟨t2, d2⟩ := a
        have h2 : d1 = d2 := hE.defers
        subst h2
        congr
        refine Array.ext_getElem? fun t => ?_
        exact hE.at_ t fun i o hi ho hl hd => by
          have h1 := (Array.getElem?_eq_some_iff.1 ho).1
          rw [hlate i hi h1] at hl
          cases hl
      subst hbE
      have h3 := hT w hS (fun j hj => hF j hj (hdone j hj))
      have hl2 : listed = lst ops.size kt := by
        refine Array.ext (by simp [lst, hsz]) fun i h1 h2 => ?_
        have h5 : listed[i] = listed.getD i true := by simp [Array.getD, h1]
        rw [h5]
        rcases Nat.lt_or_ge i kt with h | h
        · rw [hdone i h]; simp [lst, h]
        · rw [hlate i h (by omega)]; simp [lst]; omega
      have hcc : ops.size - kt = fuel + 1 := by
        rw [← hc]
        have h7 : ∀ n, n ≤ ops.size → (List.range n).countP (fun i => !listed.getD i true) = n - kt := by
          intro n
          induction n with
          | zero => intro _; simp
          | succ n ihn =>
            intro hn
            rw [List.range_succ, List.countP_append, ihn (by omega)]
            rcases Nat.lt_or_ge n kt with h | h
            · rw [List.countP_cons, List.countP_nil, hdone n h, if_neg (by decide)]; omega
            · rw [List.countP_cons, List.countP_nil, hlate n h (by omega), if_pos (by decide)]; omega
        exact (h7 ops.size (Nat.le_refl _)).symm
      rw [← hcc, hl2]
      exact h3
    · refine ⟨fun hr => ?_, fun i hi => ?_⟩
      · exact absurd (fun j hj => all_listed hok hsz hr (j + 1) j (by omega) _ (Array.getElem?_eq_getElem (show j < ops.size by omega))) hdone
      · obtain ⟨hl, o, ho, hd⟩ := mem_ready.1 hi
        have hio := (Array.getElem?_eq_some_iff.1 ho).1
        have hil : i < listed.size := by omega
        have hik : i < kt := by
          rcases Nat.lt_or_ge i kt with h | h
          · exact h
          · refine absurd (fun j hj => ?_) hdone
            have := waits_listed hsh ops.size i j (tailOk_at htl hio h hj) fun o' ho' => by
              rw [ho] at ho'
              injection ho' with ho'
              subst ho'
              exact hd
            rwa [getD_tf (by omega)] at this
        have hset : ∀ j, j ≠ i → (listed.setIfInBounds i true).getD j true = listed.getD j true := fun j hj => getD_set_ne true (Ne.symm hj)
        have hseti : (listed.setIfInBounds i true).getD i true = true := by simp [Array.getD, hil]
        have hsz' : (listed.setIfInBounds i true).size = ops.size := by simpa using hsz
        have hc' : (List.range ops.size).countP (fun j => !(listed.setIfInBounds i true).getD j true) = fuel := by
          have h7 : ∀ n, (List.range n).countP (fun j => !(listed.setIfInBounds i true).getD j true) + (if i < n then 1 else 0) = (List.range n).countP (fun j => !listed.getD j true) := by
            intro n
            induction n with
            | zero => simp
            | succ n ihn =>
              rw [List.range_succ, List.countP_append, List.countP_append]
              by_cases e : n = i
              · subst e
                rw [if_neg (by omega)] at ihn
                rw [if_pos (by omega)]
                rw [List.countP_cons, List.countP_nil, List.countP_cons, List.countP_nil, hseti, hl, if_neg (by decide), if_pos (by decide)]
                omega
              · have h8 : (if i < n + 1 then 1 else 0) = (if i < n then 1 else 0) := by
                  by_cases h9 : i < n
                  · rw [if_pos h9, if_pos (by omega)]
                  · rw [if_neg h9, if_neg (by omega)]
                rw [h8, List.countP_cons, List.countP_nil, List.countP_cons, List.countP_nil, hset n e]
                omega
          have := h7 ops.size
          rw [if_pos hio, hc] at this
          omega
        have hsh' : Shut ops (listed.setIfInBounds i true) := by
          intro q oq hoq hlq e he hb
          have hq := (Array.getElem?_eq_some_iff.1 hoq).1
          rw [getD_tf (by omega)] at hlq
          have hmono' : listed.getD e.on false = true → (listed.setIfInBounds i true).getD e.on false = true := fun h => getD_set_true h
          by_cases hqi : q = i
          · subst hqi
            rw [ho] at hoq
            injection hoq with hoq
            subst hoq
            exact hmono' (hd e he hb)
          · rw [hset q hqi] at hlq
            exact hmono' (hsh q oq hoq (by rw [getD_tf (by omega)]; exact hlq) e he hb)
        obtain ⟨hst, _⟩ := wkf_at hok kt 0 a0 (by omega) hW hag
        obtain ⟨bi, o', ho', hagi, hstep⟩ := hst i (Nat.zero_le _) hik
        rw [ho] at ho'
        injection ho' with ho'
        subst ho'
        have hF1 : ∀ j, edgeB o j = true → F j (valAt ops a j) w := by
          intro j hj
          have hji := edge_lt hok ho j hj
          refine hF j (by omega) ?_
          unfold edgeB at hj
          obtain ⟨e, he, hb⟩ := List.any_eq_true.1 hj
          simp only [Bool.and_eq_true, beq_iff_eq] at hb
          have := hd e (Array.mem_toList_iff.1 he) hb.1
          rw [hb.2, getD_tf (by omega)] at this
          exact this
        obtain ⟨hw1, hwp⟩ := stepK_to (Q := Q) hok ho hagi hstep (edge_lt hok ho) hS hF1 (K := wpAny P .any ops Q fuel (listed.setIfInBounds i true)) (fun u w' hS' hM hF' => ih _ _ _ hsz' hc' hsh' (fun q hq hqs => by rw [hset q (by omega)]; exact hlate q hq hqs)
          ⟨by rw [put_size]; exact hag.size, by rw [put_defers]; exact hag.defers, fun t ht => by
            have hdt : o.dst ≠ some t := ht i o (Nat.zero_le _) ho hseti
            rw [put_other hdt]
            exact hag.at_ t fun q oq hq hoq hlq => ht q oq hq hoq (by
              by_cases hqi : q = i
              · subst hqi; exact hseti
              · rw [hset q hqi]; exact hlq)⟩ hS' (fun j hj hlj => by
            by_cases hji : j = i
            · subst hji; exact hF'
            · rw [hset j hji] at hlj
              have h8 : valAt ops (a.put o.dst u) j = valAt ops a j := by
                unfold valAt
                cases hoj : ops[j]? with
                | none => rfl
                | some oj =>
                  cases hdj : oj.dst with
                  | none => simp [hdj]
                  | some d =>
                    simp only [Option.bind_some, hdj]
                    have h9 : o.dst ≠ some d := ((regOkT_at hok ho).2.2 j oj d hji hoj hdj).1
                    simp only [Array.getD_eq_getD_getElem?, put_other h9]
              rw [h8]
              exact hmono j _ _ _ (hF j hj hlj) hM))
        unfold wpOp
        simp only [ho]
        rw [if_pos hw1]
        exact .inl hwp

/-- The beginning: kt operations with facts, then the others. -/
theorem wp_region_fk {id : Nat} {a : Act} {w : World} {Q : Exit → Act → World → Prop} (S : World → Prop) (F : Nat → Value → World → Prop) (kt : Nat) (hm : P.follows .mixedOrders = true) (hok : regOkT ops ops.size = true) (hkt : kt ≤ ops.size) (htl : tailOk ops kt = true)
    (hmono : ∀ k v w w', F k v w → Mk0 w w' → F k v w') (hS : S w.drew)
    (h : WkF P ops (wpAny P .any ops Q (ops.size - kt) (lst ops.size kt)) S F kt kt 0 a) : (Code.region id ops true).wp P Q a w := by
  refine wp_region_any hm (wpAny_f hok hkt htl hmono h ops.size _ a _ (by simp) ?_ ?_ ?_ ⟨rfl, rfl, fun t _ => rfl⟩ hS ?_)
  · rw [List.countP_eq_length.2]
    · simp
    · intro i hi
      have := List.mem_range.1 hi
      simp [Array.getD, this]
  · intro i o ho hl
    simp [Array.getD] at hl
  · intro i _ hi
    simp [Array.getD, hi]
  · intro j hj hl
    have : j < ops.size := by omega
    simp [Array.getD, this] at hl
end
def fkF (l : List (Value → World → Prop)) (k : Nat) (v : Value) (w : World) : Prop := (l.getD k (fun _ _ => True)) v w
def fkM : List (Value → World → Prop) → Prop
  | [] => True
  | p :: l => (∀ v w w', p v w → Mk0 w w' → p v w') ∧ fkM l
theorem fkM_mono : ∀ {l : List (Value → World → Prop)}, fkM l → ∀ k v w w', fkF l k v w → Mk0 w w' → fkF l k v w'
  | [], _, k, v, w, w', _, _ => by unfold fkF; simp
  | p :: l, h, 0, v, w, w', hp, m => h.1 v w w' hp m
  | p :: l, h, k + 1, v, w, w', hp, m => fkM_mono (l := l) h.2 k v w w' hp m
end Go.Proofs.YtifhhfndoifbhaaGreat
namespace Go.Proofs.YtifhhfndoifbhaaGreat
open Go
set_option linter.unusedVariables false
section
variable {P : Program} {ops : Array Oper} {Q : Exit → Act → World → Prop} {G : Type} {S : G → World → Prop} {F : G → Nat → Value → World → Prop} {X : G → World → G → World → Prop}
/-- What a step owes. -/
def StepG (P : Program) (ops : Array Oper) (S : G → World → Prop) (F : G → Nat → Value → World → Prop) (X : G → World → G → World → Prop) (k : Nat) (o : Oper) (a : Act) : Prop :=
  ∀ g w, S g w → (∀ j, edgeB o j = true → F g j (valAt ops a j) w) →
    Region.wanted o (yielded ops a.tmps) = true ∧ o.wp P a w (fun a' w' => a'.defers = a.defers ∧ ∃ g', S g' w' ∧ X g w g' w' ∧ ∃ u, a' = a.put o.dst u ∧ F g' k (valAt ops (a.put o.dst u) k) w') noOut
/-- A step that reads no memory and makes none. -/
def PureG (P : Program) (ops : Array Oper) (S : G → World → Prop) (F : G → Nat → Value → World → Prop) (k : Nat) (o : Oper) (a : Act) : Prop :=
  ∀ g w, S g w → (∀ j, edgeB o j = true → F g j (valAt ops a j) w) →
    Region.wanted o (yielded ops a.tmps) = true ∧ ∃ v, (∀ w', (execOp a.eval o).run P w' = .ok (.value v) w') ∧ F g k (valAt ops (a.put o.dst v) k) w
def WkG (P : Program) (ops : Array Oper) (T : Act → World → Prop) (S : G → World → Prop) (F : G → Nat → Value → World → Prop) (X : G → World → G → World → Prop) (lz kt : Nat) : Nat → Nat → Act → Prop
  | 0, _, a => ∀ g w, S g w → (∀ j, j < kt → F g j (valAt ops a j) w) → T a w
  | m + 1, k, a => ∃ o, ops[k]? = some o ∧ (StepG P ops S F X k o a ∧ (k = lz → PureG P ops S F k o a)) ∧ ∀ v, WkG P ops T S F X lz kt m (k + 1) (a.put o.dst v)
section
variable {T : Act → World → Prop} {lz kt m k : Nat} {a : Act} {o : Oper}
theorem WkG.value {d : Tmp} (hz : k ≠ lz) (ho : ops[k]? = some o) (hd : o.dst = some d) (hlt : d < a.tmps.size) (hg : o.guard = none)
    (hv : ∀ g w, S g w → (∀ j, edgeB o j = true → F g j (valAt ops a j) w) → ∃ v w' g', (execOp a.eval o).run P w = .ok (.value v) w' ∧ S g' w' ∧ X g w g' w' ∧ F g' k v w')
    (h : ∀ v, WkG P ops T S F X lz kt m (k + 1) (a.put o.dst v)) : WkG P ops T S F X lz kt (m + 1) k a :=
  ⟨o, ho, ⟨fun g w hS hF => ⟨by simp [Region.wanted, hg], by
    obtain ⟨v, w', g', he, hS', hM, hF'⟩ := hv g w hS hF
    unfold Oper.wp
    rw [he]
    exact ⟨put_defers, g', hS', hM, v, rfl, by rw [valAt_put ho hd hlt]; exact hF'⟩⟩, fun e => absurd e hz⟩, h⟩
theorem WkG.call {d : Tmp} (hz : k ≠ lz) (ho : ops[k]? = some o) (hd : o.dst = some d) (hlt : d < a.tmps.size) (hg : o.guard = none)
    (hv : ∀ g w, S g w → (∀ j, edgeB o j = true → F g j (valAt ops a j) w) → ∃ f args, (execOp a.eval o).run P w = .ok (.enter f args) w ∧ Calls P f args w fun e w' => ∃ v g', e = .returned v ∧ S g' w' ∧ X g w g' w' ∧ F g' k v w')
    (h : ∀ v, WkG P ops T S F X lz kt m (k + 1) (a.put o.dst v)) : WkG P ops T S F X lz kt (m + 1) k a :=
  ⟨o, ho, ⟨fun g w hS hF => ⟨by simp [Region.wanted, hg], by
    obtain ⟨f, args, he, hc⟩ := hv g w hS hF
    unfold Oper.wp
    rw [he]
    refine Calls.mono hc ?_
    rintro e w' ⟨v, g', rfl, hS', hM, hF'⟩
    exact ⟨put_defers, g', hS', hM, v, rfl, by rw [valAt_put ho hd hlt]; exact hF'⟩⟩, fun e => absurd e hz⟩, h⟩
theorem WkG.pure {d : Tmp} (hX : ∀ g w, X g w g w) (ho : ops[k]? = some o) (hd : o.dst = some d) (hlt : d < a.tmps.size) (hg : o.guard = none)
    (hv : ∀ g w, S g w → (∀ j, edgeB o j = true → F g j (valAt ops a j) w) → ∃ v, (∀ w', (execOp a.eval o).run P w' = .ok (.value v) w') ∧ F g k v w)
    (h : ∀ v, WkG P ops T S F X lz kt m (k + 1) (a.put o.dst v)) : WkG P ops T S F X lz kt (m + 1) k a :=
  ⟨o, ho, ⟨fun g w hS hF => ⟨by simp [Region.wanted, hg], by
    obtain ⟨v, he, hF'⟩ := hv g w hS hF
    unfold Oper.wp
    rw [he]
    exact ⟨put_defers, g, hS, hX g w, v, rfl, by rw [valAt_put ho hd hlt]; exact hF'⟩⟩, fun _ g w hS hF => ⟨by simp [Region.wanted, hg], by
    obtain ⟨v, he, hF'⟩ := hv g w hS hF
    exact ⟨v, he, by rw [valAt_put ho hd hlt]; exact hF'⟩⟩⟩, h⟩
theorem WkG.done (h : ∀ g w, S g w → (∀ j, j < kt → F g j (valAt ops a j) w) → T a w) : WkG P ops T S F X lz kt 0 k a := h
end
/-- The step at the frame that is there. -/
theorem stepG_to (hok : regOkT ops ops.size = true) {listed : Array Bool} {k : Nat} {b a : Act} {o : Oper} (ho : ops[k]? = some o) (h : Agr ops listed k b a) (hst : StepG P ops S F X k o b)
    (hj : ∀ j, edgeB o j = true → j < k) {w : World} {g : G} {K : Act → World → Prop} (hS : S g w) (hF : ∀ j, edgeB o j = true → F g j (valAt ops a j) w)
    (hK : ∀ u w' g', S g' w' → X g w g' w' → F g' k (valAt ops (a.put o.dst u) k) w' → K (a.put o.dst u) w') :
    Region.wanted o (yielded ops a.tmps) = true ∧ o.wp P a w K Q := by
  obtain ⟨hev, hw⟩ := same_exec hok ho (agr_look hok ho h)
  have hval : ∀ j, j < k → valAt ops b j = valAt ops a j := by
    intro j hjk
    unfold valAt
    cases ho' : ops[j]? with
    | none => rfl
    | some oj =>
      cases hd : oj.dst with
      | none => simp [hd]
      | some d =>
        simp only [Option.bind_some, hd]
        have := h.at_ d fun i oi hi hoi _ hdi => ((regOkT_at hok ho').2.2 i oi d (by omega) hoi hdi).1 hd
        simp only [Array.getD_eq_getD_getElem?, this]
  have hvalk : ∀ u, valAt ops (b.put o.dst u) k = valAt ops (a.put o.dst u) k := by
    intro u
    unfold valAt
    rw [ho]
    cases hd : o.dst with
    | none => simp [hd]
    | some d =>
      have hs := h.size
      simp only [Option.bind_some, hd, Act.put, Array.getD_eq_getD_getElem?]
      rw [Array.getElem?_setIfInBounds, Array.getElem?_setIfInBounds, if_pos rfl, if_pos rfl, hs]
  obtain ⟨h1, h2⟩ := hst g w hS (fun j hjb => by rw [hval j (hj j hjb)]; exact hF j hjb)
  refine ⟨by rw [← hw]; exact h1, ?_⟩
  have next : ∀ u w', (∃ g', S g' w' ∧ X g w g' w' ∧ ∃ u', b.put o.dst u = b.put o.dst u' ∧ F g' k (valAt ops (b.put o.dst u') k) w') → K (a.put o.dst u) w' := by
    rintro u w' ⟨g', hS', hM, u', hu, hF'⟩
    refine hK u w' g' hS' hM ?_
    rw [← hvalk, hu]
    exact hF'
  unfold Oper.wp at *
  rw [← hev]
  revert h2
  generalize (execOp b.eval o).run P w = r
  intro h2
  cases r with
  | ok n w' =>
    cases n with
    | value u => exact next u w' h2.2
    | skip => exact next undef w' h2.2
    | defer d =>
      have h3 : (({ b with defers := d :: b.defers } : Act).put o.dst undef).defers = b.defers := h2.1
      have h4 : (({ b with defers := d :: b.defers } : Act).put o.dst undef).defers = d :: b.defers := by cases o.dst <;> rfl
      rw [h4] at h3
      have := congrArg List.length h3
      simp at this
    | enter f args =>
      refine Calls.mono (show Calls P f args w' _ from h2) fun e w'' he => ?_
      cases e with
      | returned u => exact next u w'' he.2
      | panicked c => exact (he : False).elim
      | outgrown =>
        obtain ⟨_, _, hf⟩ := (he : LetsOut noOut)
        exact (hf : False).elim
    | row row args => exact Rows.mono (show Rows P row args w' _ from h2) fun u w'' he => next u w'' he.2
    | _ => exact (h2 : False).elim
  | halt x w' => cases x <;> exact (h2 : False).elim

theorem wkg_at (hok : regOkT ops ops.size = true) {T : Act → World → Prop} {lz kt : Nat} {listed : Array Bool} {a : Act} : ∀ (m k : Nat) (b : Act), k + m = kt → WkG P ops T S F X lz kt m k b → Agr ops listed k b a →
    (∀ i, k ≤ i → i < kt → ∃ bi o, ops[i]? = some o ∧ Agr ops listed i bi a ∧ (StepG P ops S F X i o bi ∧ (i = lz → PureG P ops S F i o bi))) ∧ ∃ bE, Agr ops listed kt bE a ∧ ∀ g w, S g w → (∀ j, j < kt → F g j (valAt ops bE j) w) → T bE w
  | 0, k, b, hk, h, hag => ⟨fun i h1 h2 => by omega, b, by rw [← hk]; exact hag, h⟩
  | m + 1, k, b, hk, ⟨o, ho, hst, h⟩, hag => by
    obtain ⟨h1, h2⟩ := wkg_at hok m (k + 1) _ (by omega) (h (valAt ops a k)) (agr_put ho hag)
    refine ⟨fun i hi hlt => ?_, h2⟩
    by_cases e : i = k
    · subst e; exact ⟨b, o, ho, hag, hst⟩
    · exact h1 i (by omega) hlt

/-- From kt on each operation waits for all ahead of kt, but for the lazy one. -/
def tailOkZ (ops : Array Oper) (kt lz : Nat) : Bool := (List.range ops.size).all fun i => decide (i < kt) || (List.range kt).all fun k => (k == lz) || waits ops ops.size i k
theorem tailOkZ_at {kt lz i k : Nat} (h : tailOkZ ops kt lz = true) (hi : i < ops.size) (hk : kt ≤ i) (hj : k < kt) (hz : k ≠ lz) : waits ops ops.size i k = true := by
  unfold tailOkZ at h
  rw [List.all_eq_true] at h
  have h1 := h i (List.mem_range.2 hi)
  simp only [Bool.or_eq_true, decide_eq_true_eq] at h1
  rcases h1 with h1 | h1
  · omega
  · rw [List.all_eq_true] at h1
    have := h1 k (List.mem_range.2 hj)
    simpa [hz] using this
def lstz (n kt lz : Nat) : Array Bool := ((List.range n).map fun i => decide (i < kt) && decide (i ≠ lz)).toArray
theorem wpAny_g (hok : regOkT ops ops.size = true) {kt lz : Nat} (hkt : kt ≤ ops.size) (hlz : lz < kt ∨ ops.size ≤ lz) (htl : tailOkZ ops kt lz = true) (hfr : lz < kt → Region.free .any ops (lstz ops.size kt lz) lz = true)
    (hQ : ∀ c (a : Act) d v w, Q (.panic c) (a.put d v) w → Q (.panic c) a w)
    (hmono : ∀ g g' k v w w', F g k v w → X g w g' w' → F g' k v w') {a0 : Act}
    (hW : WkG P ops (wpAny P .any ops Q (ops.size - kt) (lst ops.size kt)) S F X lz kt kt 0 a0) :
    ∀ (fuel : Nat) (listed : Array Bool) (a : Act) (w : World) (g : G), listed.size = ops.size → (List.range ops.size).countP (fun i => !listed.getD i true) = fuel →
      Shut ops listed → (∀ i, kt ≤ i → i < ops.size → listed.getD i true = false) → Agr ops listed 0 a0 a → S g w → (∀ j, j < kt → listed.getD j true = true → F g j (valAt ops a j) w) → wpAny P .any ops Q fuel listed a w := by
  intro fuel
  induction fuel with
  | zero =>
    intro listed a w g hsz hc hsh hlate hag hS hF
    have hall : ∀ i, i < ops.size → listed.getD i true = true := by
      intro i hi
      rw [List.countP_eq_zero] at hc
      simpa using hc i (List.mem_range.2 hi)
    have hk : kt = ops.size := by
      rcases Nat.lt_or_ge kt ops.size with h | h
      · have h1 := hlate kt (Nat.le_refl _) h
        rw [hall kt h] at h1
        cases h1
      · omega
    obtain ⟨_, bE, hE, hT⟩ := wkg_at hok kt 0 a0 (by omega) hW hag
    have hbE : bE = a := by
      obtain ⟨t1, d1⟩ := bE
      obtain ⟨t2, d2⟩ := a
      have h2 : d1 = d2 := hE.defers
      subst h2
      congr
      refine Array.ext_getElem? fun t => ?_
      exact hE.at_ t fun i o hi ho hl hd => by have := (Array.getElem?_eq_some_iff.1 ho).1; omega
    subst hbE
    have h3 := hT g w hS (fun j hj => hF j hj (hall j (by omega)))
    have hl2 : listed = lst ops.size kt := by
      refine Array.ext (by simp [lst, hsz]) fun i h1 h2 => ?_
      have h5 := hall i (by omega)
      have h6 : listed[i] = true := by simpa [Array.getD, h1] using h5
      rw [h6]
      simp [lst]
      omega
    rw [hl2]
    rw [show ops.size - kt = 0 by omega] at h3
    exact h3
  | succ fuel ih =>
    intro listed a w g hsz hc hsh hlate hag hS hF
    -- behind the step of an early operation
    have next : ∀ i o, ops[i]? = some o → listed.getD i true = false → i < kt → (∀ e ∈ o.after, Region.binds .any e = true → listed.getD e.on false = true) →
        ∀ u w' g', S g' w' → (∀ j v, F g j v w → F g' j v w') → F g' i (valAt ops (a.put o.dst u) i) w' → wpAny P .any ops Q fuel (listed.setIfInBounds i true) (a.put o.dst u) w' := by
      intro i o ho hl hik hd u w' g' hS' hmo hF'
      have hio := (Array.getElem?_eq_some_iff.1 ho).1
      have hil : i < listed.size := by omega
      have hset : ∀ j, j ≠ i → (listed.setIfInBounds i true).getD j true = listed.getD j true := fun j hj => getD_set_ne true (Ne.symm hj)
      have hseti : (listed.setIfInBounds i true).getD i true = true := by simp [Array.getD, hil]
      have hsz' : (listed.setIfInBounds i true).size = ops.size := by simpa using hsz
      have hc' : (List.range ops.size).countP (fun j => !(listed.setIfInBounds i true).getD j true) = fuel := by
        have h7 : ∀ n, (List.range n).countP (fun j => !(listed.setIfInBounds i true).getD j true) + (if i < n then 1 else 0) = (List.range n).countP (fun j => !listed.getD j true) := by
          intro n
          induction n with
          | zero => simp
          | succ n ihn =>
            rw [List.range_succ, List.countP_append, List.countP_append]
            by_cases e : n = i
            · subst e
              rw [if_neg (by omega)] at ihn
              rw [if_pos (by omega)]
              rw [List.countP_cons, List.countP_nil, List.countP_cons, List.countP_nil, hseti, hl, if_neg (by decide), if_pos (by decide)]
              omega
            · have h8 : (if i < n + 1 then 1 else 0) = (if i < n then 1 else 0) := by
                by_cases h9 : i < n
                · rw [if_pos h9, if_pos (by omega)]
                · rw [if_neg h9, if_neg (by omega)]
              rw [h8, List.countP_cons, List.countP_nil, List.countP_cons, List.countP_nil, hset n e]
              omega
        have := h7 ops.size
        rw [if_pos hio, hc] at this
        omega
      have hsh' : Shut ops (listed.setIfInBounds i true) := by
        intro q oq hoq hlq e he hb
        have hq := (Array.getElem?_eq_some_iff.1 hoq).1
        rw [getD_tf (by omega)] at hlq
        have hmono' : listed.getD e.on false = true → (listed.setIfInBounds i true).getD e.on false = true := fun h => getD_set_true h
        by_cases hqi : q = i
        · subst hqi
          rw [ho] at hoq
          injection hoq with hoq
          subst hoq
          exact hmono' (hd e he hb)
        · rw [hset q hqi] at hlq
          exact hmono' (hsh q oq hoq (by rw [getD_tf (by omega)]; exact hlq) e he hb)
      exact ih _ _ _ g' hsz' hc' hsh' (fun q hq hqs => by rw [hset q (by omega)]; exact hlate q hq hqs)
        ⟨by rw [put_size]; exact hag.size, by rw [put_defers]; exact hag.defers, fun t ht => by
          have hdt : o.dst ≠ some t := ht i o (Nat.zero_le _) ho hseti
          rw [put_other hdt]
          exact hag.at_ t fun q oq hq hoq hlq => ht q oq hq hoq (by
            by_cases hqi : q = i
            · subst hqi; exact hseti
            · rw [hset q hqi]; exact hlq)⟩ hS' (fun j hj hlj => by
          by_cases hji : j = i
          · subst hji; exact hF'
          · rw [hset j hji] at hlj
            have h8 : valAt ops (a.put o.dst u) j = valAt ops a j := by
              unfold valAt
              cases hoj : ops[j]? with
              | none => rfl
              | some oj =>
                cases hdj : oj.dst with
                | none => simp [hdj]
                | some d =>
                  simp only [Option.bind_some, hdj]
                  have h9 : o.dst ≠ some d := ((regOkT_at hok ho).2.2 j oj d hji hoj hdj).1
                  simp only [Array.getD_eq_getD_getElem?, put_other h9]
            rw [h8]
            exact hmo j _ (hF j hj hlj))
    have factsOf : ∀ i o, ops[i]? = some o → i < kt → (∀ e ∈ o.after, Region.binds .any e = true → listed.getD e.on false = true) → ∀ j, edgeB o j = true → F g j (valAt ops a j) w := by
      intro i o ho hik hd j hj
      have hio := (Array.getElem?_eq_some_iff.1 ho).1
      have hji := edge_lt hok ho j hj
      refine hF j (by omega) ?_
      unfold edgeB at hj
      obtain ⟨e, he, hb⟩ := List.any_eq_true.1 hj
      simp only [Bool.and_eq_true, beq_iff_eq] at hb
      have := hd e (Array.mem_toList_iff.1 he) hb.1
      rw [hb.2, getD_tf (by omega)] at this
      exact this
    by_cases hdone0 : ∀ j, j < kt → j ≠ lz → listed.getD j true = true
    · by_cases hz : listed.getD lz true = true
      · have hdone : ∀ j, j < kt → listed.getD j true = true := fun j hj => by
          by_cases e : j = lz
          · subst e; exact hz
          · exact hdone0 j hj e
        obtain ⟨_, bE, hE, hT⟩ := wkg_at hok kt 0 a0 (by omega) hW hag
        have hbE : bE = a := by
          obtain ⟨t1, d1⟩ := bE
          obtain ⟨t2, d2⟩ := a
          have h2 : d1 = d2 := hE.defers
          subst h2
          congr
          refine Array.ext_getElem? fun t => ?_
          exact hE.at_ t fun i o hi ho hl hd => by
            have h1 := (Array.getElem?_eq_some_iff.1 ho).1
            rw [hlate i hi h1] at hl
            cases hl
        subst hbE
        have h3 := hT g w hS (fun j hj => hF j hj (hdone j hj))
        have hl2 : listed = lst ops.size kt := by
          refine Array.ext (by simp [lst, hsz]) fun i h1 h2 => ?_
          have h5 : listed[i] = listed.getD i true := by simp [Array.getD, h1]
          rw [h5]
          rcases Nat.lt_or_ge i kt with h | h
          · rw [hdone i h]; simp [lst, h]
          · rw [hlate i h (by omega)]; simp [lst]; omega
        have hcc : ops.size - kt = fuel + 1 := by
          rw [← hc]
          have h7 : ∀ n, n ≤ ops.size → (List.range n).countP (fun i => !listed.getD i true) = n - kt := by
            intro n
            induction n with
            | zero => intro _; simp
            | succ n ihn =>
              intro hn
              rw [List.range_succ, List.countP_append, ihn (by omega)]
              rcases Nat.lt_or_ge n kt with h | h
              · rw [List.countP_cons, List.countP_nil, hdone n h, if_neg (by decide)]; omega
              · rw [List.countP_cons, List.countP_nil, hlate n h (by omega), if_pos (by decide)]; omega
          exact (h7 ops.size (Nat.le_refl _)).symm
        rw [← hcc, hl2]
        exact h3
      · have hlzk : lz < kt := by
          rcases hlz with h | h
          · exact h
          · exact absurd (show listed.getD lz true = true by simp [Array.getD, show ¬ lz < listed.size by omega]) hz
        have hzf : listed.getD lz true = false := by simpa using hz
        obtain ⟨oz, hoz⟩ : ∃ oz, ops[lz]? = some oz := ⟨_, Array.getElem?_eq_getElem (show lz < ops.size by omega)⟩
        have hdz : ∀ e ∈ oz.after, Region.binds .any e = true → listed.getD e.on false = true := fun e he hb => by
          have h1 := (regOkT_at hok hoz).1 e he hb
          rw [getD_tf (by omega)]
          exact hdone0 e.on (by omega) (by omega)
        obtain ⟨hst, _⟩ := wkg_at hok kt 0 a0 (by omega) hW hag
        obtain ⟨bi, o', ho', hagi, hstep⟩ := hst lz (Nat.zero_le _) hlzk
        rw [hoz] at ho'
        injection ho' with ho'
        subst ho'
        obtain ⟨hev, hw⟩ := same_exec hok hoz (agr_look hok hoz hagi)
        have hval : ∀ j, j < lz → valAt ops bi j = valAt ops a j := by
          intro j hjk
          unfold valAt
          cases ho' : ops[j]? with
          | none => rfl
          | some oj =>
            cases hd : oj.dst with
            | none => simp [hd]
            | some d =>
              simp only [Option.bind_some, hd]
              have := hagi.at_ d fun i oi hi hoi _ hdi => ((regOkT_at hok ho').2.2 i oi d (by omega) hoi hdi).1 hd
              simp only [Array.getD_eq_getD_getElem?, this]
        have hvalk : ∀ u, valAt ops (bi.put oz.dst u) lz = valAt ops (a.put oz.dst u) lz := by
          intro u
          unfold valAt
          rw [hoz]
          cases hd : oz.dst with
          | none => simp [hd]
          | some d =>
            have hs := hagi.size
            simp only [Option.bind_some, hd, Act.put, Array.getD_eq_getD_getElem?]
            rw [Array.getElem?_setIfInBounds, Array.getElem?_setIfInBounds, if_pos rfl, if_pos rfl, hs]
        obtain ⟨hwz, v, hrun, hFv⟩ := hstep.2 rfl g w hS (fun j hj => by rw [hval j (edge_lt hok hoz j hj)]; exact factsOf lz oz hoz hlzk hdz j hj)
        have hl3 : listed = lstz ops.size kt lz := by
          refine Array.ext (by simp [lstz, hsz]) fun i h1 h2 => ?_
          have h5 : listed[i] = listed.getD i true := by simp [Array.getD, h1]
          rw [h5]
          by_cases e : i = lz
          · subst e; rw [hzf]; simp [lstz]
          · rcases Nat.lt_or_ge i kt with h | h
            · rw [hdone0 i h e]; simp [lstz, h, e]
            · rw [hlate i h (by omega)]; simp [lstz]; omega
        refine wpAny_take hoz (regOkT_sel hok) (by rw [hl3]; exact hfr hlzk) (by simpa using mem_ready.2 ⟨hzf, oz, hoz, hdz⟩) (fun c a w h => hQ c a oz.dst v w h) (Or.inl ⟨by rw [← hw]; exact hwz, fun w' => by rw [← hev]; exact hrun w'⟩) ?_
        exact next lz oz hoz hzf hlzk hdz v w g hS (fun _ _ h => h) (by rw [← hvalk]; exact hFv)
    · refine ⟨fun hr => ?_, fun i hi => ?_⟩
      · exact absurd (fun j hj _ => all_listed hok hsz hr (j + 1) j (by omega) _ (Array.getElem?_eq_getElem (show j < ops.size by omega))) hdone0
      · obtain ⟨hl, o, ho, hd⟩ := mem_ready.1 hi
        have hio := (Array.getElem?_eq_some_iff.1 ho).1
        have hik : i < kt := by
          rcases Nat.lt_or_ge i kt with h | h
          · exact h
          · refine absurd (fun j hj hz => ?_) hdone0
            have := waits_listed hsh ops.size i j (tailOkZ_at htl hio h hj hz) fun o' ho' => by
              rw [ho] at ho'
              injection ho' with ho'
              subst ho'
              exact hd
            rwa [getD_tf (by omega)] at this
        obtain ⟨hst, _⟩ := wkg_at hok kt 0 a0 (by omega) hW hag
        obtain ⟨bi, o', ho', hagi, hstep⟩ := hst i (Nat.zero_le _) hik
        rw [ho] at ho'
        injection ho' with ho'
        subst ho'
        obtain ⟨hw1, hwp⟩ := stepG_to (Q := Q) hok ho hagi hstep.1 (edge_lt hok ho) hS (factsOf i o ho hik hd) (K := wpAny P .any ops Q fuel (listed.setIfInBounds i true)) (fun u w' g' hS' hM hF' => next i o ho hl hik hd u w' g' hS' (fun j v h => hmono _ _ j _ _ _ h hM) hF')
        unfold wpOp
        simp only [ho]
        rw [if_pos hw1]
        exact .inl hwp

theorem Oper.wp_noPan {o : Oper} {a : Act} {w : World} {K : Act → World → Prop} (h : o.wp P a w K (noPan Q)) : o.wp P a w K Q := by
  unfold Oper.wp at *
  generalize (execOp a.eval o).run P w = r at *
  cases r with
  | ok n w' =>
    cases n <;> simp only [Oper.upon] at h ⊢ <;>
      first
        | exact h
        | exact Calls.mono h (fun e w'' he => by
            cases e with
            | returned u => exact he
            | panicked c => exact (he : False).elim
            | outgrown => exact letsOut_noPan he)
  | halt x w' =>
    cases x <;> simp only [Oper.upon] at h ⊢ <;> first | exact h | exact (h : False).elim
theorem wpAny_noPan {md : Region.Mode} : ∀ (fuel : Nat) (listed : Array Bool) (a : Act) (w : World), wpAny P md ops (noPan Q) fuel listed a w → wpAny P md ops Q fuel listed a w := by
  intro fuel
  induction fuel with
  | zero => exact fun _ _ _ h => h
  | succ fuel ih =>
    intro listed a w h
    refine ⟨h.1, fun i hi => ?_⟩
    have h1 := h.2 i hi
    unfold wpOp at *
    split
    · rename_i ho
      simp only [ho] at h1
      exact ih _ _ _ h1
    · rename_i o ho
      simp only [ho] at h1
      split
      · rename_i hw
        simp only [hw, if_true] at h1
        exact h1.imp (fun h2 => Oper.wp_noPan (Oper.wp_mono (fun a w h3 => ih _ a w h3) h2)) (fun h2 => ⟨h2.1, letsOut_noPan h2.2⟩)
      · rename_i hw
        simp only [hw] at h1
        exact ih _ _ _ h1
theorem wpAny_doneN {md : Region.Mode} {listed : Array Bool} {a : Act} {w : World} {fuel : Nat} (hr : Region.ready md ops listed = []) (h : Q .normal a w) : wpAny P md ops (noPan Q) fuel listed a w := wpAny_done (Q := noPan Q) hr (show noPan Q .normal a w from h) fuel
/-- The beginning: kt operations with facts (lz among them may come up late), then the others. -/
theorem wp_region_fg {id : Nat} {a : Act} {w : World} {Q : Exit → Act → World → Prop} (S : G → World → Prop) (F : G → Nat → Value → World → Prop) (X : G → World → G → World → Prop) (g : G) (lz kt : Nat) (hm : P.follows .mixedOrders = true) (hok : regOkT ops ops.size = true) (hkt : kt ≤ ops.size) (hlz : lz < kt ∨ ops.size ≤ lz) (htl : tailOkZ ops kt lz = true)
    (hfr : lz < kt → Region.free .any ops (lstz ops.size kt lz) lz = true)
    (hmono : ∀ g g' k v w w', F g k v w → X g w g' w' → F g' k v w') (hS : S g w.drew)
    (h : WkG P ops (wpAny P .any ops (noPan Q) (ops.size - kt) (lst ops.size kt)) S F X lz kt kt 0 a) : (Code.region id ops true).wp P Q a w := by
  refine wp_region_any hm (wpAny_noPan _ _ _ _ (wpAny_g hok hkt hlz htl hfr (fun _ _ _ _ _ h => (h : False).elim) hmono h ops.size _ a _ g (by simp) ?_ ?_ ?_ ⟨rfl, rfl, fun t _ => rfl⟩ hS ?_))
  · rw [List.countP_eq_length.2]
    · simp
    · intro i hi
      have := List.mem_range.1 hi
      simp [Array.getD, this]
  · intro i o ho hl
    simp [Array.getD] at hl
  · intro i _ hi
    simp [Array.getD, hi]
  · intro j hj hl
    have : j < ops.size := by omega
    simp [Array.getD, this] at hl
end
/-- The boxes that a region has made: the operation's number and the block. -/
abbrev Bxs := Nat → Nat → Prop
def bxP (g : Bxs) (k B : Nat) : Bxs := fun j C => g j C ∨ (j = k ∧ C = B)
/-- What a step may turn: no block that was there; new boxes lie above what was there. -/
structure BxX (g : Bxs) (w : World) (g' : Bxs) (w' : World) : Prop where
  far : Mk0 w w'
  keep : ∀ k B, g k B → g' k B
  new : ∀ k B, g' k B → g k B ∨ w.heap.size ≤ B
theorem BxX.same {g : Bxs} {w w' : World} (h : Mk0 w w') : BxX g w g w' := ⟨h, fun _ _ h => h, fun _ _ h => .inl h⟩
/-- The boxes lie above W0, below the heap's end, each for itself. -/
structure BxS (W0 : Nat) (g : Bxs) (w : World) : Prop where
  lo : ∀ k B, g k B → W0 ≤ B
  hi : ∀ k B, g k B → B < w.heap.size
  one : ∀ k j B, g k B → g j B → k = j
theorem BxS.none_ (W0 : Nat) (w : World) : BxS W0 (fun _ _ => False) w := ⟨fun _ _ h => h.elim, fun _ _ h => h.elim, fun _ _ _ h => h.elim⟩
theorem BxS.mk0 {W0 : Nat} {g : Bxs} {w w' : World} (h : BxS W0 g w) (m : Mk0 w w') : BxS W0 g w' := ⟨h.lo, fun k B hk => Nat.lt_of_lt_of_le (h.hi k B hk) m.size, h.one⟩
theorem BxS.put {W0 : Nat} {g : Bxs} {w : World} (h : BxS W0 g w) (hW : W0 ≤ w.heap.size) (k : Nat) (o : Obj) : BxS W0 (bxP g k w.heap.size) (w.alloc o) := by
  refine ⟨fun j B hj => ?_, fun j B hj => ?_, fun j i B hj hi => ?_⟩
  · rcases hj with hj | ⟨_, rfl⟩
    · exact h.lo j B hj
    · exact hW
  · rw [World.size_alloc]
    rcases hj with hj | ⟨_, rfl⟩
    · have := h.hi j B hj; omega
    · omega
  · rcases hj with hj | ⟨e1, e2⟩ <;> rcases hi with hi | ⟨e3, e4⟩
    · exact h.one j i B hj hi
    · have := h.hi j B hj; omega
    · have := h.hi i B hi; omega
    · omega
theorem BxX.put {g : Bxs} {w : World} (k : Nat) (o : Obj) : BxX g w (bxP g k w.heap.size) (w.alloc o) := by
  refine ⟨Mk.alloc w o, fun j B hj => .inl hj, fun j B hj => ?_⟩
  rcases hj with hj | ⟨_, rfl⟩
  · exact .inl hj
  · exact .inr (Nat.le_refl _)
/-- A range lies apart from the boxes. -/
def BxA (g : Bxs) (lo hi : Nat) : Prop := ∀ k B, g k B → B < lo ∨ hi ≤ B
theorem BxA.step {g g' : Bxs} {w w' : World} {lo hi : Nat} (h : BxA g lo hi) (x : BxX g w g' w') (hh : hi ≤ w.heap.size) : BxA g' lo hi := fun k B hB => by
  rcases x.new k B hB with h1 | h1
  · exact h k B h1
  · exact .inr (by omega)
theorem BxA.of {W0 : Nat} {g : Bxs} {w : World} {hi : Nat} (h : BxS W0 g w) : BxA g w.heap.size hi := fun k B hB => .inl (h.hi k B hB)
/-- v leads to a box of operation k, with these cells, which may be written. -/
def BxZ (g : Bxs) (k : Nat) (zs : List Value) (v : Value) (w : World) : Prop := ∃ B, g k B ∧ v = .pointer (some ⟨B, 0, none⟩) ∧ B < w.heap.size ∧ (∀ j x, zs[j]? = some x → w.cell? ⟨B, j, none⟩ = some x) ∧ (∀ j, w.frozen? ⟨B, j, none⟩ = false)
theorem BxZ.step {g g' : Bxs} {k : Nat} {zs : List Value} {v : Value} {w w' : World} (h : BxZ g k zs v w) (x : BxX g w g' w') : BxZ g' k zs v w' := by
  obtain ⟨B, h1, h2, hB, h3, h4⟩ := h
  exact ⟨B, x.keep k B h1, h2, Nat.lt_of_lt_of_le hB x.far.size, fun j y hy => x.far.cellAt (h3 j y hy), fun j => (x.far.frozen hB (.inr (Nat.zero_le _))).trans (h4 j)⟩
theorem BxZ.new (g : Bxs) (k : Nat) (zs : List Value) (t : TypeId) (w : World) : BxZ (bxP g k w.heap.size) k zs (.pointer (some ⟨w.heap.size, 0, none⟩)) (w.alloc (.cells zs.toArray t)) := by
  refine ⟨w.heap.size, .inr ⟨rfl, rfl⟩, rfl, by rw [World.size_alloc]; omega, fun j x hx => ?_, fun j => by simp [go_sem]⟩
  rw [World.cell?_alloc_at _ _ _ _ rfl]
  simpa using hx
def fgF (l : List (Bxs → Value → World → Prop)) (g : Bxs) (k : Nat) (v : Value) (w : World) : Prop := (l.getD k (fun _ _ _ => True)) g v w
def fgM : List (Bxs → Value → World → Prop) → Prop
  | [] => True
  | p :: l => (∀ g g' v w w', p g v w → BxX g w g' w' → p g' v w') ∧ fgM l
theorem fgM_mono : ∀ {l : List (Bxs → Value → World → Prop)}, fgM l → ∀ g g' k v w w', fgF l g k v w → BxX g w g' w' → fgF l g' k v w'
  | [], _, g, g', k, v, w, w', _, _ => by unfold fgF; simp
  | p :: l, h, g, g', 0, v, w, w', hp, m => h.1 g g' v w w' hp m
  | p :: l, h, g, g', k + 1, v, w, w', hp, m => fgM_mono (l := l) h.2 g g' k v w w' hp m
end Go.Proofs.YtifhhfndoifbhaaGreat
namespace Go.Proofs.YtifhhfndoifbhaaGreat
open Go
set_option linter.unusedVariables false
section
variable {P : Program} {ops : Array Oper} {Q : Exit → Act → World → Prop} {G : Type} {S : G → World → Prop} {F : G → Nat → (Nat → Value) → World → Prop} {X : G → World → G → World → Prop} {sp : Nat → Nat → Bool}
/-- The values that the fact of operation k may speak of. -/
def vk (sp : Nat → Nat → Bool) (ops : Array Oper) (a : Act) (k : Nat) : Nat → Value := fun j => match sp k j with | true => valAt ops a j | false => undef
def spOk (sp : Nat → Nat → Bool) (ops : Array Oper) : Bool := (List.range ops.size).all fun k => (List.range ops.size).all fun j => !sp k j || (j == k || waits ops ops.size k j)
theorem spOk_at {sp : Nat → Nat → Bool} (h : spOk sp ops = true) {k j : Nat} (hk : k < ops.size) (hj : j < ops.size) (hs : sp k j = true) : j = k ∨ waits ops ops.size k j = true := by
  unfold spOk at h
  rw [List.all_eq_true] at h
  have h1 := h k (List.mem_range.2 hk)
  rw [List.all_eq_true] at h1
  have h2 := h1 j (List.mem_range.2 hj)
  simpa [hs] using h2
theorem waits_lt (hok : regOkT ops ops.size = true) : ∀ (n i j : Nat), waits ops n i j = true → j < i
  | 0, _, _, h => by simp [waits] at h
  | n + 1, i, j, h => by
    unfold waits at h
    split at h
    · cases h
    · rename_i o ho
      obtain ⟨e, he, hb⟩ := Array.any_eq_true'.1 h
      simp only [Bool.and_eq_true, Bool.or_eq_true, beq_iff_eq] at hb
      have h1 := (regOkT_at hok ho).1 e he hb.1
      rcases hb.2 with h2 | h2
      · omega
      · have := waits_lt hok n e.on j h2
        omega
theorem valAt_out {a : Act} {j : Nat} (h : ¬ j < ops.size) : valAt ops a j = undef := by
  unfold valAt
  rw [Array.getElem?_eq_none (by omega)]
  rfl
theorem vk_congr {a b : Act} {k : Nat} (h : ∀ j, j < ops.size → sp k j = true → valAt ops a j = valAt ops b j) : vk sp ops a k = vk sp ops b k := by
  funext j
  unfold vk
  cases hs : sp k j with
  | false => rfl
  | true =>
    simp only
    by_cases hj : j < ops.size
    · exact h j hj hs
    · rw [valAt_out hj, valAt_out hj]
/-- What a step owes. -/
def StepH (sp : Nat → Nat → Bool) (P : Program) (ops : Array Oper) (S : G → World → Prop) (F : G → Nat → (Nat → Value) → World → Prop) (X : G → World → G → World → Prop) (k : Nat) (o : Oper) (a : Act) : Prop :=
  ∀ g w, S g w → (∀ j, edgeB o j = true → F g j (vk sp ops a j) w) →
    Region.wanted o (yielded ops a.tmps) = true ∧ o.wp P a w (fun a' w' => a'.defers = a.defers ∧ ∃ g', S g' w' ∧ X g w g' w' ∧ ∃ u, a' = a.put o.dst u ∧ F g' k (vk sp ops (a.put o.dst u) k) w') noOut
/-- A step that reads no memory and makes none. -/
def PureH (sp : Nat → Nat → Bool) (P : Program) (ops : Array Oper) (S : G → World → Prop) (F : G → Nat → (Nat → Value) → World → Prop) (k : Nat) (o : Oper) (a : Act) : Prop :=
  ∀ g w, S g w → (∀ j, edgeB o j = true → F g j (vk sp ops a j) w) →
    Region.wanted o (yielded ops a.tmps) = true ∧ ∃ v, (∀ w', (execOp a.eval o).run P w' = .ok (.value v) w') ∧ F g k (vk sp ops (a.put o.dst v) k) w
def WkH (sp : Nat → Nat → Bool) (P : Program) (ops : Array Oper) (T : Act → World → Prop) (S : G → World → Prop) (F : G → Nat → (Nat → Value) → World → Prop) (X : G → World → G → World → Prop) (lz kt : Nat) : Nat → Nat → Act → Prop
  | 0, _, a => ∀ g w, S g w → (∀ j, j < kt → F g j (vk sp ops a j) w) → T a w
  | m + 1, k, a => ∃ o, ops[k]? = some o ∧ (StepH sp P ops S F X k o a ∧ (k = lz → PureH sp P ops S F k o a)) ∧ ∀ v, WkH sp P ops T S F X lz kt m (k + 1) (a.put o.dst v)
section
variable {T : Act → World → Prop} {lz kt m k : Nat} {a : Act} {o : Oper}
theorem WkH.value {d : Tmp} (hz : k ≠ lz) (ho : ops[k]? = some o) (hd : o.dst = some d) (hlt : d < a.tmps.size) (hg : o.guard = none)
    (hv : ∀ g w, S g w → (∀ j, edgeB o j = true → F g j (vk sp ops a j) w) → ∃ v w' g', (execOp a.eval o).run P w = .ok (.value v) w' ∧ S g' w' ∧ X g w g' w' ∧ F g' k (vk sp ops (a.put o.dst v) k) w')
    (h : ∀ v, WkH sp P ops T S F X lz kt m (k + 1) (a.put o.dst v)) : WkH sp P ops T S F X lz kt (m + 1) k a :=
  ⟨o, ho, ⟨fun g w hS hF => ⟨by simp [Region.wanted, hg], by
    obtain ⟨v, w', g', he, hS', hM, hF'⟩ := hv g w hS hF
    unfold Oper.wp
    rw [he]
    exact ⟨put_defers, g', hS', hM, v, rfl, hF'⟩⟩, fun e => absurd e hz⟩, h⟩
theorem WkH.call {d : Tmp} (hz : k ≠ lz) (ho : ops[k]? = some o) (hd : o.dst = some d) (hlt : d < a.tmps.size) (hg : o.guard = none)
    (hv : ∀ g w, S g w → (∀ j, edgeB o j = true → F g j (vk sp ops a j) w) → ∃ f args, (execOp a.eval o).run P w = .ok (.enter f args) w ∧ Calls P f args w fun e w' => ∃ v g', e = .returned v ∧ S g' w' ∧ X g w g' w' ∧ F g' k (vk sp ops (a.put o.dst v) k) w')
    (h : ∀ v, WkH sp P ops T S F X lz kt m (k + 1) (a.put o.dst v)) : WkH sp P ops T S F X lz kt (m + 1) k a :=
  ⟨o, ho, ⟨fun g w hS hF => ⟨by simp [Region.wanted, hg], by
    obtain ⟨f, args, he, hc⟩ := hv g w hS hF
    unfold Oper.wp
    rw [he]
    refine Calls.mono hc ?_
    rintro e w' ⟨v, g', rfl, hS', hM, hF'⟩
    exact ⟨put_defers, g', hS', hM, v, rfl, hF'⟩⟩, fun e => absurd e hz⟩, h⟩
theorem WkH.pure {d : Tmp} (hX : ∀ g w, X g w g w) (ho : ops[k]? = some o) (hd : o.dst = some d) (hlt : d < a.tmps.size) (hg : o.guard = none)
    (hv : ∀ g w, S g w → (∀ j, edgeB o j = true → F g j (vk sp ops a j) w) → ∃ v, (∀ w', (execOp a.eval o).run P w' = .ok (.value v) w') ∧ F g k (vk sp ops (a.put o.dst v) k) w)
    (h : ∀ v, WkH sp P ops T S F X lz kt m (k + 1) (a.put o.dst v)) : WkH sp P ops T S F X lz kt (m + 1) k a :=
  ⟨o, ho, ⟨fun g w hS hF => ⟨by simp [Region.wanted, hg], by
    obtain ⟨v, he, hF'⟩ := hv g w hS hF
    unfold Oper.wp
    rw [he]
    exact ⟨put_defers, g, hS, hX g w, v, rfl, hF'⟩⟩, fun _ g w hS hF => ⟨by simp [Region.wanted, hg], by
    obtain ⟨v, he, hF'⟩ := hv g w hS hF
    exact ⟨v, he, hF'⟩⟩⟩, h⟩
theorem WkH.done (h : ∀ g w, S g w → (∀ j, j < kt → F g j (vk sp ops a j) w) → T a w) : WkH sp P ops T S F X lz kt 0 k a := h
end
/-- The step at the frame that is there. -/
theorem stepH_to (hok : regOkT ops ops.size = true) (hsp : spOk sp ops = true) {listed : Array Bool} {k : Nat} {b a : Act} {o : Oper} (ho : ops[k]? = some o) (h : Agr ops listed k b a) (hst : StepH sp P ops S F X k o b)
    (hj : ∀ j, edgeB o j = true → j < k) {w : World} {g : G} {K : Act → World → Prop} (hS : S g w) (hF : ∀ j, edgeB o j = true → F g j (vk sp ops a j) w)
    (hK : ∀ u w' g', S g' w' → X g w g' w' → F g' k (vk sp ops (a.put o.dst u) k) w' → K (a.put o.dst u) w') :
    Region.wanted o (yielded ops a.tmps) = true ∧ o.wp P a w K Q := by
  obtain ⟨hev, hw⟩ := same_exec hok ho (agr_look hok ho h)
  have hval : ∀ j, j < k → valAt ops b j = valAt ops a j := by
    intro j hjk
    unfold valAt
    cases ho' : ops[j]? with
    | none => rfl
    | some oj =>
      cases hd : oj.dst with
      | none => simp [hd]
      | some d =>
        simp only [Option.bind_some, hd]
        have := h.at_ d fun i oi hi hoi _ hdi => ((regOkT_at hok ho').2.2 i oi d (by omega) hoi hdi).1 hd
        simp only [Array.getD_eq_getD_getElem?, this]
  have hks := (Array.getElem?_eq_some_iff.1 ho).1
  have hvkj : ∀ j, j < k → vk sp ops b j = vk sp ops a j := fun j hjk => vk_congr fun q hq hs => hval q (by
    rcases spOk_at hsp (by omega) hq hs with e | e
    · omega
    · have := waits_lt hok _ _ _ e; omega)
  have hvalk : ∀ u, vk sp ops (b.put o.dst u) k = vk sp ops (a.put o.dst u) k := fun u => vk_congr fun q hq hs => by
    rcases spOk_at hsp hks hq hs with e | e
    · subst e
      unfold valAt
      rw [ho]
      cases hd : o.dst with
      | none => simp [hd]
      | some d =>
        have hs := h.size
        simp only [Option.bind_some, hd, Act.put, Array.getD_eq_getD_getElem?]
        rw [Array.getElem?_setIfInBounds, Array.getElem?_setIfInBounds, if_pos rfl, if_pos rfl, hs]
    · have hqk := waits_lt hok _ _ _ e
      have h3 := hval q hqk
      have h4 : ∀ a : Act, valAt ops (a.put o.dst u) q = valAt ops a q := by
        intro a
        unfold valAt
        cases hoj : ops[q]? with
        | none => rfl
        | some oj =>
          cases hdj : oj.dst with
          | none => simp [hdj]
          | some d =>
            simp only [Option.bind_some, hdj]
            have h9 : o.dst ≠ some d := ((regOkT_at hok ho).2.2 q oj d (by omega) hoj hdj).1
            simp only [Array.getD_eq_getD_getElem?, put_other h9]
      rw [h4, h4, h3]
  obtain ⟨h1, h2⟩ := hst g w hS (fun j hjb => by rw [hvkj j (hj j hjb)]; exact hF j hjb)
  refine ⟨by rw [← hw]; exact h1, ?_⟩
  have next : ∀ u w', (∃ g', S g' w' ∧ X g w g' w' ∧ ∃ u', b.put o.dst u = b.put o.dst u' ∧ F g' k (vk sp ops (b.put o.dst u') k) w') → K (a.put o.dst u) w' := by
    rintro u w' ⟨g', hS', hM, u', hu, hF'⟩
    refine hK u w' g' hS' hM ?_
    rw [← hvalk, hu]
    exact hF'
  unfold Oper.wp at *
  rw [← hev]
  revert h2
  generalize (execOp b.eval o).run P w = r
  intro h2
  cases r with
  | ok n w' =>
    cases n with
    | value u => exact next u w' h2.2
    | skip => exact next undef w' h2.2
    | defer d =>
      have h3 : (({ b with defers := d :: b.defers } : Act).put o.dst undef).defers = b.defers := h2.1
      have h4 : (({ b with defers := d :: b.defers } : Act).put o.dst undef).defers = d :: b.defers := by cases o.dst <;> rfl
      rw [h4] at h3
      have := congrArg List.length h3
      simp at this
    | enter f args =>
      refine Calls.mono (show Calls P f args w' _ from h2) fun e w'' he => ?_
      cases e with
      | returned u => exact next u w'' he.2
      | panicked c => exact (he : False).elim
      | outgrown =>
        obtain ⟨_, _, hf⟩ := (he : LetsOut noOut)
        exact (hf : False).elim
    | row row args => exact Rows.mono (show Rows P row args w' _ from h2) fun u w'' he => next u w'' he.2
    | _ => exact (h2 : False).elim
  | halt x w' => cases x <;> exact (h2 : False).elim

theorem wkh_at (hok : regOkT ops ops.size = true) {T : Act → World → Prop} {lz kt : Nat} {listed : Array Bool} {a : Act} : ∀ (m k : Nat) (b : Act), k + m = kt → WkH sp P ops T S F X lz kt m k b → Agr ops listed k b a →
    (∀ i, k ≤ i → i < kt → ∃ bi o, ops[i]? = some o ∧ Agr ops listed i bi a ∧ (StepH sp P ops S F X i o bi ∧ (i = lz → PureH sp P ops S F i o bi))) ∧ ∃ bE, Agr ops listed kt bE a ∧ ∀ g w, S g w → (∀ j, j < kt → F g j (vk sp ops bE j) w) → T bE w
  | 0, k, b, hk, h, hag => ⟨fun i h1 h2 => by omega, b, by rw [← hk]; exact hag, h⟩
  | m + 1, k, b, hk, ⟨o, ho, hst, h⟩, hag => by
    obtain ⟨h1, h2⟩ := wkh_at hok m (k + 1) _ (by omega) (h (valAt ops a k)) (agr_put ho hag)
    refine ⟨fun i hi hlt => ?_, h2⟩
    by_cases e : i = k
    · subst e; exact ⟨b, o, ho, hag, hst⟩
    · exact h1 i (by omega) hlt

theorem wpAny_h (hok : regOkT ops ops.size = true) (hsp : spOk sp ops = true) {kt lz : Nat} (hkt : kt ≤ ops.size) (hlz : lz < kt ∨ ops.size ≤ lz) (htl : tailOkZ ops kt lz = true) (hfr : lz < kt → Region.free .any ops (lstz ops.size kt lz) lz = true)
    (hQ : ∀ c (a : Act) d v w, Q (.panic c) (a.put d v) w → Q (.panic c) a w)
    (hmono : ∀ g g' k v w w', F g k v w → X g w g' w' → F g' k v w') {a0 : Act}
    (hW : WkH sp P ops (wpAny P .any ops Q (ops.size - kt) (lst ops.size kt)) S F X lz kt kt 0 a0) :
    ∀ (fuel : Nat) (listed : Array Bool) (a : Act) (w : World) (g : G), listed.size = ops.size → (List.range ops.size).countP (fun i => !listed.getD i true) = fuel →
      Shut ops listed → (∀ i, kt ≤ i → i < ops.size → listed.getD i true = false) → Agr ops listed 0 a0 a → S g w → (∀ j, j < kt → listed.getD j true = true → F g j (vk sp ops a j) w) → wpAny P .any ops Q fuel listed a w := by
  intro fuel
  induction fuel with
  | zero =>
    intro listed a w g hsz hc hsh hlate hag hS hF
    have hall : ∀ i, i < ops.size → listed.getD i true = true := by
      intro i hi
      rw [List.countP_eq_zero] at hc
      simpa using hc i (List.mem_range.2 hi)
    have hk : kt = ops.size := by
      rcases Nat.lt_or_ge kt ops.size with h | h
      · have h1 := hlate kt (Nat.le_refl _) h
        rw [hall kt h] at h1
        cases h1
      · omega
    obtain ⟨_, bE, hE, hT⟩ := wkh_at hok kt 0 a0 (by omega) hW hag
    have hbE : bE = a := by
      obtain ⟨t1, d1⟩ := bE
      obtain ⟨t2, d2⟩ := a
      have h2 : d1 = d2 := hE.defers
      subst h2
      congr
      refine Array.ext_getElem? fun t => ?_
      exact hE.at_ t fun i o hi ho hl hd => by have := (Array.getElem?_eq_some_iff.1 ho).1; omega
    subst hbE
    have h3 := hT g w hS (fun j hj => hF j hj (hall j (by omega)))
    have hl2 : listed = lst ops.size kt := by
      refine Array.ext (by simp [lst, hsz]) fun i h1 h2 => ?_
      have h5 := hall i (by omega)
      have h6 : listed[i] = true := by simpa [Array.getD, h1] using h5
      rw [h6]
      simp [lst]
      omega
    rw [hl2]
    rw [show ops.size - kt = 0 by omega] at h3
    exact h3
  | succ fuel ih =>
    intro listed a w g hsz hc hsh hlate hag hS hF
    -- behind the step of an early operation
    have next : ∀ i o, ops[i]? = some o → listed.getD i true = false → i < kt → (∀ e ∈ o.after, Region.binds .any e = true → listed.getD e.on false = true) →
        ∀ u w' g', S g' w' → (∀ j v, F g j v w → F g' j v w') → F g' i (vk sp ops (a.put o.dst u) i) w' → wpAny P .any ops Q fuel (listed.setIfInBounds i true) (a.put o.dst u) w' := by
      intro i o ho hl hik hd u w' g' hS' hmo hF'
      have hio := (Array.getElem?_eq_some_iff.1 ho).1
      have hil : i < listed.size := by omega
      have hset : ∀ j, j ≠ i → (listed.setIfInBounds i true).getD j true = listed.getD j true := fun j hj => getD_set_ne true (Ne.symm hj)
      have hseti : (listed.setIfInBounds i true).getD i true = true := by simp [Array.getD, hil]
      have hsz' : (listed.setIfInBounds i true).size = ops.size := by simpa using hsz
      have hc' : (List.range ops.size).countP (fun j => !(listed.setIfInBounds i true).getD j true) = fuel := by
        have h7 : ∀ n, (List.range n).countP (fun j => !(listed.setIfInBounds i true).getD j true) + (if i < n then 1 else 0) = (List.range n).countP (fun j => !listed.getD j true) := by
          intro n
          induction n with
          | zero => simp
          | succ n ihn =>
            rw [List.range_succ, List.countP_append, List.countP_append]
            by_cases e : n = i
            · subst e
              rw [if_neg (by omega)] at ihn
              rw [if_pos (by omega)]
              rw [List.countP_cons, List.countP_nil, List.countP_cons, List.countP_nil, hseti, hl, if_neg (by decide), if_pos (by decide)]
              omega
            · have h8 : (if i < n + 1 then 1 else 0) = (if i < n then 1 else 0) := by
                by_cases h9 : i < n
                · rw [if_pos h9, if_pos (by omega)]
                · rw [if_neg h9, if_neg (by omega)]
              rw [h8, List.countP_cons, List.countP_nil, List.countP_cons, List.countP_nil, hset n e]
              omega
        have := h7 ops.size
        rw [if_pos hio, hc] at this
        omega
      have hsh' : Shut ops (listed.setIfInBounds i true) := by
        intro q oq hoq hlq e he hb
        have hq := (Array.getElem?_eq_some_iff.1 hoq).1
        rw [getD_tf (by omega)] at hlq
        have hmono' : listed.getD e.on false = true → (listed.setIfInBounds i true).getD e.on false = true := fun h => getD_set_true h
        by_cases hqi : q = i
        · subst hqi
          rw [ho] at hoq
          injection hoq with hoq
          subst hoq
          exact hmono' (hd e he hb)
        · rw [hset q hqi] at hlq
          exact hmono' (hsh q oq hoq (by rw [getD_tf (by omega)]; exact hlq) e he hb)
      exact ih _ _ _ g' hsz' hc' hsh' (fun q hq hqs => by rw [hset q (by omega)]; exact hlate q hq hqs)
        ⟨by rw [put_size]; exact hag.size, by rw [put_defers]; exact hag.defers, fun t ht => by
          have hdt : o.dst ≠ some t := ht i o (Nat.zero_le _) ho hseti
          rw [put_other hdt]
          exact hag.at_ t fun q oq hq hoq hlq => ht q oq hq hoq (by
            by_cases hqi : q = i
            · subst hqi; exact hseti
            · rw [hset q hqi]; exact hlq)⟩ hS' (fun j hj hlj => by
          by_cases hji : j = i
          · subst hji; exact hF'
          · rw [hset j hji] at hlj
            have hjs : j < ops.size := by omega
            have h8 : vk sp ops (a.put o.dst u) j = vk sp ops a j := vk_congr fun q hq hs => by
              have hqi : q ≠ i := by
                rcases spOk_at hsp hjs hq hs with e | e
                · omega
                · have hlq := waits_listed hsh ops.size j q e fun o' ho' e' he' hb' => hsh j o' ho' (by rw [getD_tf (by omega)]; exact hlj) e' he' hb'
                  rw [getD_tf (by omega)] at hlq
                  intro e2
                  subst e2
                  rw [hl] at hlq
                  cases hlq
              unfold valAt
              cases hoj : ops[q]? with
              | none => rfl
              | some oj =>
                cases hdj : oj.dst with
                | none => simp [hdj]
                | some d =>
                  simp only [Option.bind_some, hdj]
                  have h9 : o.dst ≠ some d := ((regOkT_at hok ho).2.2 q oj d hqi hoj hdj).1
                  simp only [Array.getD_eq_getD_getElem?, put_other h9]
            rw [h8]
            exact hmo j _ (hF j hj hlj))
    have factsOf : ∀ i o, ops[i]? = some o → i < kt → (∀ e ∈ o.after, Region.binds .any e = true → listed.getD e.on false = true) → ∀ j, edgeB o j = true → F g j (vk sp ops a j) w := by
      intro i o ho hik hd j hj
      have hio := (Array.getElem?_eq_some_iff.1 ho).1
      have hji := edge_lt hok ho j hj
      refine hF j (by omega) ?_
      unfold edgeB at hj
      obtain ⟨e, he, hb⟩ := List.any_eq_true.1 hj
      simp only [Bool.and_eq_true, beq_iff_eq] at hb
      have := hd e (Array.mem_toList_iff.1 he) hb.1
      rw [hb.2, getD_tf (by omega)] at this
      exact this
    by_cases hdone0 : ∀ j, j < kt → j ≠ lz → listed.getD j true = true
    · by_cases hz : listed.getD lz true = true
      · have hdone : ∀ j, j < kt → listed.getD j true = true := fun j hj => by
          by_cases e : j = lz
          · subst e; exact hz
          · exact hdone0 j hj e
        obtain ⟨_, bE, hE, hT⟩ := wkh_at hok kt 0 a0 (by omega) hW hag
        have hbE : bE = a := by
          obtain ⟨t1, d1⟩ := bE
          obtain ⟨t2, d2⟩ := a
          have h2 : d1 = d2 := hE.defers
          subst h2
          congr
          refine Array.ext_getElem? fun t => ?_
          exact hE.at_ t fun i o hi ho hl hd => by
            have h1 := (Array.getElem?_eq_some_iff.1 ho).1
            rw [hlate i hi h1] at hl
            cases hl
        subst hbE
        have h3 := hT g w hS (fun j hj => hF j hj (hdone j hj))
        have hl2 : listed = lst ops.size kt := by
          refine Array.ext (by simp [lst, hsz]) fun i h1 h2 => ?_
          have h5 : listed[i] = listed.getD i true := by simp [Array.getD, h1]
          rw [h5]
          rcases Nat.lt_or_ge i kt with h | h
          · rw [hdone i h]; simp [lst, h]
          · rw [hlate i h (by omega)]; simp [lst]; omega
        have hcc : ops.size - kt = fuel + 1 := by
          rw [← hc]
          have h7 : ∀ n, n ≤ ops.size → (List.range n).countP (fun i => !listed.getD i true) = n - kt := by
            intro n
            induction n with
            | zero => intro _; simp
            | succ n ihn =>
              intro hn
              rw [List.range_succ, List.countP_append, ihn (by omega)]
              rcases Nat.lt_or_ge n kt with h | h
              · rw [List.countP_cons, List.countP_nil, hdone n h, if_neg (by decide)]; omega
              · rw [List.countP_cons, List.countP_nil, hlate n h (by omega), if_pos (by decide)]; omega
          exact (h7 ops.size (Nat.le_refl _)).symm
        rw [← hcc, hl2]
        exact h3
      · have hlzk : lz < kt := by
          rcases hlz with h | h
          · exact h
          · exact absurd (show listed.getD lz true = true by simp [Array.getD, show ¬ lz < listed.size by omega]) hz
        have hzf : listed.getD lz true = false := by simpa using hz
        obtain ⟨oz, hoz⟩ : ∃ oz, ops[lz]? = some oz := ⟨_, Array.getElem?_eq_getElem (show lz < ops.size by omega)⟩
        have hdz : ∀ e ∈ oz.after, Region.binds .any e = true → listed.getD e.on false = true := fun e he hb => by
          have h1 := (regOkT_at hok hoz).1 e he hb
          rw [getD_tf (by omega)]
          exact hdone0 e.on (by omega) (by omega)
        obtain ⟨hst, _⟩ := wkh_at hok kt 0 a0 (by omega) hW hag
        obtain ⟨bi, o', ho', hagi, hstep⟩ := hst lz (Nat.zero_le _) hlzk
        rw [hoz] at ho'
        injection ho' with ho'
        subst ho'
        obtain ⟨hev, hw⟩ := same_exec hok hoz (agr_look hok hoz hagi)
        have hval : ∀ j, j < lz → valAt ops bi j = valAt ops a j := by
          intro j hjk
          unfold valAt
          cases ho' : ops[j]? with
          | none => rfl
          | some oj =>
            cases hd : oj.dst with
            | none => simp [hd]
            | some d =>
              simp only [Option.bind_some, hd]
              have := hagi.at_ d fun i oi hi hoi _ hdi => ((regOkT_at hok ho').2.2 i oi d (by omega) hoi hdi).1 hd
              simp only [Array.getD_eq_getD_getElem?, this]
        have hvkj : ∀ j, j < lz → vk sp ops bi j = vk sp ops a j := fun j hjk => vk_congr fun q hq hs => hval q (by
          rcases spOk_at hsp (by omega) hq hs with e | e
          · omega
          · have := waits_lt hok _ _ _ e; omega)
        have hvalk : ∀ u, vk sp ops (bi.put oz.dst u) lz = vk sp ops (a.put oz.dst u) lz := fun u => vk_congr fun q hq hs => by
          rcases spOk_at hsp (by omega) hq hs with e | e
          · subst e
            unfold valAt
            rw [hoz]
            cases hd : oz.dst with
            | none => simp [hd]
            | some d =>
              have hs := hagi.size
              simp only [Option.bind_some, hd, Act.put, Array.getD_eq_getD_getElem?]
              rw [Array.getElem?_setIfInBounds, Array.getElem?_setIfInBounds, if_pos rfl, if_pos rfl, hs]
          · have hqk := waits_lt hok _ _ _ e
            have h3 := hval q hqk
            have h4 : ∀ a : Act, valAt ops (a.put oz.dst u) q = valAt ops a q := by
              intro a
              unfold valAt
              cases hoj : ops[q]? with
              | none => rfl
              | some oj =>
                cases hdj : oj.dst with
                | none => simp [hdj]
                | some d =>
                  simp only [Option.bind_some, hdj]
                  have h9 : oz.dst ≠ some d := ((regOkT_at hok hoz).2.2 q oj d (by omega) hoj hdj).1
                  simp only [Array.getD_eq_getD_getElem?, put_other h9]
            rw [h4, h4, h3]
        obtain ⟨hwz, v, hrun, hFv⟩ := hstep.2 rfl g w hS (fun j hj => by rw [hvkj j (edge_lt hok hoz j hj)]; exact factsOf lz oz hoz hlzk hdz j hj)
        have hl3 : listed = lstz ops.size kt lz := by
          refine Array.ext (by simp [lstz, hsz]) fun i h1 h2 => ?_
          have h5 : listed[i] = listed.getD i true := by simp [Array.getD, h1]
          rw [h5]
          by_cases e : i = lz
          · subst e; rw [hzf]; simp [lstz]
          · rcases Nat.lt_or_ge i kt with h | h
            · rw [hdone0 i h e]; simp [lstz, h, e]
            · rw [hlate i h (by omega)]; simp [lstz]; omega
        refine wpAny_take hoz (regOkT_sel hok) (by rw [hl3]; exact hfr hlzk) (by simpa using mem_ready.2 ⟨hzf, oz, hoz, hdz⟩) (fun c a w h => hQ c a oz.dst v w h) (Or.inl ⟨by rw [← hw]; exact hwz, fun w' => by rw [← hev]; exact hrun w'⟩) ?_
        exact next lz oz hoz hzf hlzk hdz v w g hS (fun _ _ h => h) (by rw [← hvalk]; exact hFv)
    · refine ⟨fun hr => ?_, fun i hi => ?_⟩
      · exact absurd (fun j hj _ => all_listed hok hsz hr (j + 1) j (by omega) _ (Array.getElem?_eq_getElem (show j < ops.size by omega))) hdone0
      · obtain ⟨hl, o, ho, hd⟩ := mem_ready.1 hi
        have hio := (Array.getElem?_eq_some_iff.1 ho).1
        have hik : i < kt := by
          rcases Nat.lt_or_ge i kt with h | h
          · exact h
          · refine absurd (fun j hj hz => ?_) hdone0
            have := waits_listed hsh ops.size i j (tailOkZ_at htl hio h hj hz) fun o' ho' => by
              rw [ho] at ho'
              injection ho' with ho'
              subst ho'
              exact hd
            rwa [getD_tf (by omega)] at this
        obtain ⟨hst, _⟩ := wkh_at hok kt 0 a0 (by omega) hW hag
        obtain ⟨bi, o', ho', hagi, hstep⟩ := hst i (Nat.zero_le _) hik
        rw [ho] at ho'
        injection ho' with ho'
        subst ho'
        obtain ⟨hw1, hwp⟩ := stepH_to (Q := Q) hok hsp ho hagi hstep.1 (edge_lt hok ho) hS (factsOf i o ho hik hd) (K := wpAny P .any ops Q fuel (listed.setIfInBounds i true)) (fun u w' g' hS' hM hF' => next i o ho hl hik hd u w' g' hS' (fun j v h => hmono _ _ j _ _ _ h hM) hF')
        unfold wpOp
        simp only [ho]
        rw [if_pos hw1]
        exact .inl hwp

/-- The beginning: kt operations with facts (lz among them may come up late), then the others. -/
theorem wp_region_fh {id : Nat} {a : Act} {w : World} {Q : Exit → Act → World → Prop} (S : G → World → Prop) (F : G → Nat → (Nat → Value) → World → Prop) (X : G → World → G → World → Prop) (g : G) (sp : Nat → Nat → Bool) (lz kt : Nat) (hm : P.follows .mixedOrders = true) (hok : regOkT ops ops.size = true) (hsp : spOk sp ops = true) (hkt : kt ≤ ops.size) (hlz : lz < kt ∨ ops.size ≤ lz) (htl : tailOkZ ops kt lz = true)
    (hfr : lz < kt → Region.free .any ops (lstz ops.size kt lz) lz = true)
    (hmono : ∀ g g' k v w w', F g k v w → X g w g' w' → F g' k v w') (hS : S g w.drew)
    (h : WkH sp P ops (wpAny P .any ops (noPan Q) (ops.size - kt) (lst ops.size kt)) S F X lz kt kt 0 a) : (Code.region id ops true).wp P Q a w := by
  refine wp_region_any hm (wpAny_noPan _ _ _ _ (wpAny_h hok hsp hkt hlz htl hfr (fun _ _ _ _ _ h => (h : False).elim) hmono h ops.size _ a _ g (by simp) ?_ ?_ ?_ ⟨rfl, rfl, fun t _ => rfl⟩ hS ?_))
  · rw [List.countP_eq_length.2]
    · simp
    · intro i hi
      have := List.mem_range.1 hi
      simp [Array.getD, this]
  · intro i o ho hl
    simp [Array.getD] at hl
  · intro i _ hi
    simp [Array.getD, hi]
  · intro j hj hl
    have : j < ops.size := by omega
    simp [Array.getD, this] at hl
end
def fhF (l : List (Bxs → (Nat → Value) → World → Prop)) (g : Bxs) (k : Nat) (v : Nat → Value) (w : World) : Prop := (l.getD k (fun _ _ _ => True)) g v w
def fhM : List (Bxs → (Nat → Value) → World → Prop) → Prop
  | [] => True
  | p :: l => (∀ g g' v w w', p g v w → BxX g w g' w' → p g' v w') ∧ fhM l
theorem fhM_mono : ∀ {l : List (Bxs → (Nat → Value) → World → Prop)}, fhM l → ∀ g g' k v w w', fhF l g k v w → BxX g w g' w' → fhF l g' k v w'
  | [], _, g, g', k, v, w, w', _, _ => by unfold fhF; simp
  | p :: l, h, g, g', 0, v, w, w', hp, m => h.1 g g' v w w' hp m
  | p :: l, h, g, g', k + 1, v, w, w', hp, m => fhM_mono (l := l) h.2 g g' k v w w' hp m
/-- The support as a list of lists. -/
def spL (l : List (List Nat)) (k j : Nat) : Bool := (l.getD k []).contains j
end Go.Proofs.YtifhhfndoifbhaaGreat
namespace Go.Proofs.YtifhhfndoifbhaaGreat
open Go
set_option linter.unusedVariables false
section
variable {P : Program} {ops : Array Oper} {G : Type} {sp : Nat → Nat → Bool} {S : G → World → Prop} {F : G → Nat → (Nat → Value) → World → Prop} {X : G → World → G → World → Prop} {T : Act → World → Prop} {lz kt m k : Nat} {a : Act} {o : Oper}
theorem WkH.valueG {d : Tmp} (hz : k ≠ lz) (ho : ops[k]? = some o) (hd : o.dst = some d) (hlt : d < a.tmps.size) (hg : ∀ g w, S g w → (∀ j, edgeB o j = true → F g j (vk sp ops a j) w) → Region.wanted o (yielded ops a.tmps) = true)
    (hv : ∀ g w, S g w → (∀ j, edgeB o j = true → F g j (vk sp ops a j) w) → ∃ v w' g', (execOp a.eval o).run P w = .ok (.value v) w' ∧ S g' w' ∧ X g w g' w' ∧ F g' k (vk sp ops (a.put o.dst v) k) w')
    (h : ∀ v, WkH sp P ops T S F X lz kt m (k + 1) (a.put o.dst v)) : WkH sp P ops T S F X lz kt (m + 1) k a :=
  ⟨o, ho, ⟨fun g w hS hF => ⟨hg g w hS hF, by
    obtain ⟨v, w', g', he, hS', hM, hF'⟩ := hv g w hS hF
    unfold Oper.wp
    rw [he]
    exact ⟨by cases o.dst <;> rfl, g', hS', hM, v, rfl, hF'⟩⟩, fun e => absurd e hz⟩, h⟩
theorem WkH.callG {d : Tmp} (hz : k ≠ lz) (ho : ops[k]? = some o) (hd : o.dst = some d) (hlt : d < a.tmps.size) (hg : ∀ g w, S g w → (∀ j, edgeB o j = true → F g j (vk sp ops a j) w) → Region.wanted o (yielded ops a.tmps) = true)
    (hv : ∀ g w, S g w → (∀ j, edgeB o j = true → F g j (vk sp ops a j) w) → ∃ f args, (execOp a.eval o).run P w = .ok (.enter f args) w ∧ Calls P f args w fun e w' => ∃ v g', e = .returned v ∧ S g' w' ∧ X g w g' w' ∧ F g' k (vk sp ops (a.put o.dst v) k) w')
    (h : ∀ v, WkH sp P ops T S F X lz kt m (k + 1) (a.put o.dst v)) : WkH sp P ops T S F X lz kt (m + 1) k a :=
  ⟨o, ho, ⟨fun g w hS hF => ⟨hg g w hS hF, by
    obtain ⟨f, args, he, hc⟩ := hv g w hS hF
    unfold Oper.wp
    rw [he]
    refine Calls.mono hc ?_
    rintro e w' ⟨v, g', rfl, hS', hM, hF'⟩
    exact ⟨by cases o.dst <;> rfl, g', hS', hM, v, rfl, hF'⟩⟩, fun e => absurd e hz⟩, h⟩
end
end Go.Proofs.YtifhhfndoifbhaaGreat
namespace Go.Proofs.YtifhhfndoifbhaaGreat
open Go.ChangeShapes Go.WideShapes Go.ChangeAt Go.RowKit
set_option linter.unusedVariables false
theorem afterV_fits (k b : Int) (zs : List THop) (n : Nat) (i : Int) (hb : (Lit.int .i64 b).wf = true) : (Lit.int .i64 (afterV k b zs n i)).wf = true := by
  unfold afterV
  split
  · exact passN_fits hb _ _
  · decide
theorem rkV_fits (k : Int) (h : (Lit.int .i64 k).wf = true) : (Lit.int .i64 (rkV k)).wf = true := by
  unfold rkV
  repeat' split
  all_goals first | decide | exact h
theorem getD_mem {α : Type} [Inhabited α] {l : List α} {i : Nat} (h : i < l.length) : l.getD i default ∈ l := by
  rw [List.getD_eq_getElem?_getD, List.getElem?_eq_getElem h]
  exact List.getElem_mem h
theorem turnP_fits {zs : List THop} (h : ∀ y ∈ zs, THop.fits y) : ∀ y ∈ turnP zs zs.length, THop.fits y := by
  intro y hy
  unfold turnP turnL at hy
  obtain ⟨i, hi, rfl⟩ := List.mem_map.1 hy
  have := List.mem_range.1 hi
  exact h _ (getD_mem (by omega))
theorem turnPt_fits {x : TPathPart} (h : TPathPart.fits x) : TPathPart.fits (turnPt x) :=
  ⟨rkV_fits _ h.1, h.2.1, afterV_fits _ _ _ _ _ h.2.2.1, turnP_fits h.2.2.2⟩
theorem turnL_fits {ps : List TPathPart} {n : Nat} (hn : ps.length = n) (h : ∀ y ∈ ps, TPathPart.fits y) : ∀ y ∈ turnL turnPt ps n, TPathPart.fits y := by
  intro y hy
  unfold turnL at hy
  obtain ⟨i, hi, rfl⟩ := List.mem_map.1 hy
  have := List.mem_range.1 hi
  exact turnPt_fits (h _ (getD_mem (by omega)))
set_option maxRecDepth 100000 in
set_option maxHeartbeats 16000000 in
theorem specBidi (a0 a1 : Option Addr) (n0 c0 n1 c1 B : Nat) (zs : List TAS) (zl : List TLink) (a : Option Addr) (n c B' : Nat) (ps : List TPathPart) (t : Int) (w : World) (hz : HasAS w B a0 n0 zs) (hl : HasLink w B a1 n1 zl) (hB : B ≤ w.heap.size) (hn0 : n0 ≤ 1048576) (hn1 : n1 ≤ 1048576) (hzf : ∀ y ∈ zs, TAS.fits y) (h : HasPathPart w B' a n ps) (hB' : B' ≤ w.heap.size) (hn : szPathPart ps n ≤ 1048576) (hf : ∀ y ∈ ps, TPathPart.fits y) (hnc : n ≤ c) :
    Calls Tryz.prog 13 #[.agg #[.slice a0 n0 c0, .slice a1 n1 c1], .agg #[.slice a n c], .int .i64 t] w fun e w' => e = .returned (.bool (useB n0 zs zl n1 ps n t && useB n0 zs zl n1 (turnL turnPt ps n) n t)) ∧ Mk0 w w' := by
  have M0 : Mk0 w ((w.alloc (Obj.cells #[Value.slice a0 n0 c0, Value.slice a1 n1 c1] 35)).alloc (Obj.cells #[Value.slice a n c] 39)) := ((Mk.alloc w (Obj.cells #[Value.slice a0 n0 c0, Value.slice a1 n1 c1] 35)).new (Obj.cells #[Value.slice a n c] 39))
  have k0 : ((w.alloc (Obj.cells #[Value.slice a0 n0 c0, Value.slice a1 n1 c1] 35)).alloc (Obj.cells #[Value.slice a n c] 39)).cell? ⟨w.heap.size, 0, none⟩ = some (.slice a0 n0 c0) := by simp [go_sem]
  have k1 : ((w.alloc (Obj.cells #[Value.slice a0 n0 c0, Value.slice a1 n1 c1] 35)).alloc (Obj.cells #[Value.slice a n c] 39)).cell? ⟨w.heap.size, 1, none⟩ = some (.slice a1 n1 c1) := by simp [go_sem]
  have u0 : ((w.alloc (Obj.cells #[Value.slice a0 n0 c0, Value.slice a1 n1 c1] 35)).alloc (Obj.cells #[Value.slice a n c] 39)).cell? ⟨w.heap.size + 1, 0, none⟩ = some (.slice a n c) := by simp [go_sem]
  have hs0 : ((w.alloc (Obj.cells #[Value.slice a0 n0 c0, Value.slice a1 n1 c1] 35)).alloc (Obj.cells #[Value.slice a n c] 39)).heap.size = w.heap.size + 1 + 1 := by simp only [World.size_alloc]
  have hrs : szPathPart (turnL turnPt ps n) n ≤ 1048576 := by rw [turnPt_sz]; exact hn
  have hrf := turnL_fits h.1 hf
  obtain ⟨b1, hb1⟩ : ∃ b, b = useB n0 zs zl n1 ps n t := ⟨_, rfl⟩
  obtain ⟨b2, hb2⟩ : ∃ b, b = useB n0 zs zl n1 (turnL turnPt ps n) n t := ⟨_, rfl⟩
  rw [← hb1, ← hb2]
  replace hb1 := Lib.hid hb1
  replace hb2 := Lib.hid hb2
  have hz' := hz.mk M0 hB (.inr (Nat.le_refl _))
  have hl' := hl.mk M0 hB (.inr (Nat.le_refl _))
  have hBb := Nat.le_trans hB M0.size
  have h' := h.mk M0 hB' (.inr (Nat.le_refl _))
  have hBb' := Nat.le_trans hB' M0.size
  cases b1
  · go_enter Tryz.func13, Tryz.ntmps13
    go_wp2_with fail
    generalize ((w.alloc (Obj.cells #[Value.slice a0 n0 c0, Value.slice a1 n1 c1] 35)).alloc (Obj.cells #[Value.slice a n c] 39)) = wb at *
    refine wp_region_wk (fun w' => Mk0 wb w' ∧ w'.cell? ⟨w.heap.size, 0, none⟩ = some (.slice a0 n0 c0) ∧ w'.cell? ⟨w.heap.size, 1, none⟩ = some (.slice a1 n1 c1) ∧ w'.cell? ⟨w.heap.size + 1, 0, none⟩ = some (.slice a n c)) (by kernel_rfl) (by kernel_rfl) (⟨Mk.drew1 _, k0, k1, u0⟩) ?_
    change Wk _ _ _ _ 12 0 _
    first | (refine Wk.skip (m := 11) (k := 0) rfl (by rfl) ?_) | (refine Wk.step (m := 11) (k := 0) (v := _) rfl (by rfl) (fun wv hS => by obtain ⟨s0, s1, s2, s3⟩ := hS; go_simp; try with_reducible rfl) ?_)
    try simp only [Act.put, List.getElem_toArray, List.getElem_cons_zero, List.setIfInBounds_toArray, List.set_cons_zero, List.set_cons_succ]
    first | (refine Wk.skip (m := 10) (k := 1) rfl (by rfl) ?_) | (refine Wk.step (m := 10) (k := 1) (v := _) rfl (by rfl) (fun wv hS => by obtain ⟨s0, s1, s2, s3⟩ := hS; go_simp; try with_reducible rfl) ?_)
    try simp only [Act.put, List.getElem_toArray, List.getElem_cons_succ, List.getElem_cons_zero, List.setIfInBounds_toArray, List.set_cons_zero, List.set_cons_succ]
    first | (refine Wk.skip (m := 9) (k := 2) rfl (by rfl) ?_) | (refine Wk.step (m := 9) (k := 2) (v := _) rfl (by rfl) (fun wv hS => by obtain ⟨s0, s1, s2, s3⟩ := hS; go_simp; try with_reducible rfl) ?_)
    try simp only [Act.put, List.getElem_toArray, List.getElem_cons_succ, List.getElem_cons_zero, List.setIfInBounds_toArray, List.set_cons_zero, List.set_cons_succ]
    refine Wk.call (m := 8) (k := 3) (v := .bool false) _ _ rfl (by rfl) (fun wv hS => by obtain ⟨s0, s1, s2, s3⟩ := hS; go_simp; first | done | exact ⟨rfl, rfl⟩ | with_reducible rfl) (fun wv hS => ?_) ?_; · obtain ⟨s0, s1, s2, s3⟩ := hS; refine (specPUse a0 a1 n0 c0 n1 c1 B zs zl a n c B' ps t wv (hz'.mk s0 hBb (.inr (Nat.le_refl _))) (hl'.mk s0 hBb (.inr (Nat.le_refl _))) (Nat.le_trans hBb s0.size) hn0 hn1 hzf (h'.mk s0 hBb' (.inr (Nat.le_refl _))) (Nat.le_trans hBb' s0.size) hn hf).mono ?_; rintro e w' ⟨he, mm⟩; exact ⟨by rw [he, ← hb1.out], ⟨s0.trans mm, mm.cellAt s1, mm.cellAt s2, mm.cellAt s3⟩⟩
    try simp only [Act.put, List.getElem_toArray, List.getElem_cons_succ, List.getElem_cons_zero, List.setIfInBounds_toArray, List.set_cons_zero, List.set_cons_succ]
    first | (refine Wk.skip (m := 7) (k := 4) rfl (by rfl) ?_) | (refine Wk.step (m := 7) (k := 4) (v := _) rfl (by rfl) (fun wv hS => by obtain ⟨s0, s1, s2, s3⟩ := hS; go_simp; try with_reducible rfl) ?_)
    try simp only [Act.put, List.getElem_toArray, List.getElem_cons_succ, List.getElem_cons_zero, List.setIfInBounds_toArray, List.set_cons_zero, List.set_cons_succ]
    first | (refine Wk.skip (m := 6) (k := 5) rfl (by rfl) ?_) | (refine Wk.step (m := 6) (k := 5) (v := _) rfl (by rfl) (fun wv hS => by obtain ⟨s0, s1, s2, s3⟩ := hS; go_simp; try with_reducible rfl) ?_)
    try simp only [Act.put, List.getElem_toArray, List.getElem_cons_succ, List.getElem_cons_zero, List.setIfInBounds_toArray, List.set_cons_zero, List.set_cons_succ]
    first | (refine Wk.skip (m := 5) (k := 6) rfl (by rfl) ?_) | (refine Wk.step (m := 5) (k := 6) (v := _) rfl (by rfl) (fun wv hS => by obtain ⟨s0, s1, s2, s3⟩ := hS; go_simp; try with_reducible rfl) ?_)
    try simp only [Act.put, List.getElem_toArray, List.getElem_cons_succ, List.getElem_cons_zero, List.setIfInBounds_toArray, List.set_cons_zero, List.set_cons_succ]
    refine Wk.skip (m := 4) (k := 7) rfl (by rfl) ?_
    try simp only [Act.put, List.getElem_toArray, List.getElem_cons_succ, List.getElem_cons_zero, List.setIfInBounds_toArray, List.set_cons_zero, List.set_cons_succ]
    first | (refine Wk.skip (m := 3) (k := 8) rfl (by rfl) ?_) | (refine Wk.step (m := 3) (k := 8) (v := _) rfl (by rfl) (fun wv hS => by obtain ⟨s0, s1, s2, s3⟩ := hS; go_simp; try with_reducible rfl) ?_)
    try simp only [Act.put, List.getElem_toArray, List.getElem_cons_succ, List.getElem_cons_zero, List.setIfInBounds_toArray, List.set_cons_zero, List.set_cons_succ]
    refine Wk.skip (m := 2) (k := 9) rfl (by rfl) ?_
    try simp only [Act.put, List.getElem_toArray, List.getElem_cons_succ, List.getElem_cons_zero, List.setIfInBounds_toArray, List.set_cons_zero, List.set_cons_succ]
    first | (refine Wk.skip (m := 1) (k := 10) rfl (by rfl) ?_) | (refine Wk.step (m := 1) (k := 10) (v := _) rfl (by rfl) (fun wv hS => by obtain ⟨s0, s1, s2, s3⟩ := hS; go_simp; try with_reducible rfl) ?_)
    try simp only [Act.put, List.getElem_toArray, List.getElem_cons_succ, List.getElem_cons_zero, List.setIfInBounds_toArray, List.set_cons_zero, List.set_cons_succ]
    first | (refine Wk.skip (m := 0) (k := 11) rfl (by rfl) ?_) | (refine Wk.step (m := 0) (k := 11) (v := _) rfl (by rfl) (fun wv hS => by obtain ⟨s0, s1, s2, s3⟩ := hS; go_simp; try with_reducible rfl) ?_)
    try simp only [Act.put, List.getElem_toArray, List.getElem_cons_succ, List.getElem_cons_zero, List.setIfInBounds_toArray, List.set_cons_zero, List.set_cons_succ]
    refine Wk.done fun wE hE => ?_
    clear k0 k1 u0
    obtain ⟨mE, k0, k1, u0⟩ := hE
    go_wp2_with fail
    go_ret
    exact ⟨rfl, M0.trans mE⟩
  · go_enter Tryz.func13, Tryz.ntmps13
    go_wp2_with fail
    generalize ((w.alloc (Obj.cells #[Value.slice a0 n0 c0, Value.slice a1 n1 c1] 35)).alloc (Obj.cells #[Value.slice a n c] 39)) = wb at *
    refine wp_region_fh (fun (g : Bxs) w' => (Mk0 wb w' ∧ w'.cell? ⟨w.heap.size, 0, none⟩ = some (.slice a0 n0 c0) ∧ w'.cell? ⟨w.heap.size, 1, none⟩ = some (.slice a1 n1 c1) ∧ w'.cell? ⟨w.heap.size + 1, 0, none⟩ = some (.slice a n c)) ∧ BxS wb.heap.size g w') (fhF [fun g x wv => (x 0) = .agg #[.slice a0 n0 c0, .slice a1 n1 c1], fun g x wv => (x 1) = .agg #[.slice a n c], fun g x wv => (x 2) = .int .i64 t, fun g x wv => (x 3) = .bool true, fun g x wv => (x 4) = .bool true, fun g x wv => (x 5) = .agg #[.slice a0 n0 c0, .slice a1 n1 c1], fun g x wv => (x 6) = .agg #[.slice a n c], fun g x wv => ∃ (A : Option Addr) (N C lo hi : Nat), (x 7) = .agg #[.slice A N C] ∧ OwnN WPathPart wv lo hi A N (turnL turnPt ps n) ∧ hi ≤ wv.heap.size, fun g x wv => (x 8) = .int .i64 t, fun g x wv => (x 9) = .bool b2, fun g x wv => (x 10) = .bool b2]) BxX (fun _ _ => False) (spL [[0], [1], [2], [3], [4], [5], [6], [7], [8], [9], [10]]) 12 11 (by kernel_rfl) (by kernel_rfl) (by kernel_rfl) (by decide) (by decide) (by kernel_rfl) (fun h => absurd h (by decide)) (fhM_mono ⟨fun g g' v w w' h x => h, fun g g' v w w' h x => h, fun g g' v w w' h x => h, fun g g' v w w' h x => h, fun g g' v w w' h x => h, fun g g' v w w' h x => h, fun g g' v w w' h x => h, fun g g' v w w' h x => (by obtain ⟨A, N, C, lo, hi, e, o, d3⟩ := h; exact ⟨A, N, C, lo, hi, e, o.mk x.far d3 (.inr (.inr (Nat.le_refl _))), Nat.le_trans d3 x.far.size⟩), fun g g' v w w' h x => h, fun g g' v w w' h x => h, fun g g' v w w' h x => h, trivial⟩) ⟨⟨Mk.drew1 _, k0, k1, u0⟩, BxS.none_ _ _⟩ ?_
    change WkH _ _ _ _ _ _ _ 12 11 11 0 _
    refine WkH.value (m := 10) (k := 0) (by decide) rfl rfl (of_decide_eq_true (by rfl)) rfl (fun g wv hS hF => ?_) (fun v0 => ?_)
    · obtain ⟨⟨s0, s1, s2, s3⟩, hB2⟩ := hS
      exact ⟨.agg #[.slice a0 n0 c0, .slice a1 n1 c1], wv, g, (by go_simp; try with_reducible rfl), ⟨⟨s0, s1, s2, s3⟩, hB2⟩, BxX.same (Mk.refl _ _ _), rfl⟩
    try simp only [Act.put, List.getElem_toArray, List.getElem_cons_zero, List.setIfInBounds_toArray, List.set_cons_zero, List.set_cons_succ]
    refine WkH.value (m := 9) (k := 1) (by decide) rfl rfl (of_decide_eq_true (by rfl)) rfl (fun g wv hS hF => ?_) (fun v1 => ?_)
    · obtain ⟨⟨s0, s1, s2, s3⟩, hB2⟩ := hS
      exact ⟨.agg #[.slice a n c], wv, g, (by go_simp; try with_reducible rfl), ⟨⟨s0, s1, s2, s3⟩, hB2⟩, BxX.same (Mk.refl _ _ _), rfl⟩
    try simp only [Act.put, List.getElem_toArray, List.getElem_cons_succ, List.getElem_cons_zero, List.setIfInBounds_toArray, List.set_cons_zero, List.set_cons_succ]
    refine WkH.value (m := 8) (k := 2) (by decide) rfl rfl (of_decide_eq_true (by rfl)) rfl (fun g wv hS hF => ?_) (fun v2 => ?_)
    · obtain ⟨⟨s0, s1, s2, s3⟩, hB2⟩ := hS
      exact ⟨.int .i64 t, wv, g, (by go_simp; try with_reducible rfl), ⟨⟨s0, s1, s2, s3⟩, hB2⟩, BxX.same (Mk.refl _ _ _), rfl⟩
    try simp only [Act.put, List.getElem_toArray, List.getElem_cons_succ, List.getElem_cons_zero, List.setIfInBounds_toArray, List.set_cons_zero, List.set_cons_succ]
    refine WkH.call (m := 7) (k := 3) (by decide) rfl rfl (of_decide_eq_true (by rfl)) rfl (fun g wv hS hF => ?_) (fun v3 => ?_)
    · obtain ⟨⟨s0, s1, s2, s3⟩, hB2⟩ := hS
      have f0 : v0 = .agg #[.slice a0 n0 c0, .slice a1 n1 c1] := hF 0 (by rfl)
      obtain rfl := f0
      have f1 : v1 = .agg #[.slice a n c] := hF 1 (by rfl)
      obtain rfl := f1
      have f2 : v2 = .int .i64 t := hF 2 (by rfl)
      obtain rfl := f2
      refine ⟨_, _, (by go_simp; first | done | exact ⟨rfl, rfl⟩ | with_reducible rfl), ?_⟩
      refine ((specPUse a0 a1 n0 c0 n1 c1 B zs zl a n c B' ps t wv (hz'.mk s0 hBb (.inr (Nat.le_refl _))) (hl'.mk s0 hBb (.inr (Nat.le_refl _))) (Nat.le_trans hBb s0.size) hn0 hn1 hzf (h'.mk s0 hBb' (.inr (Nat.le_refl _))) (Nat.le_trans hBb' s0.size) hn hf)).mono ?_
      rintro e w' ⟨rfl, mm⟩
      exact ⟨_, g, rfl, ⟨⟨s0.trans mm, mm.cellAt s1, mm.cellAt s2, mm.cellAt s3⟩, hB2.mk0 mm⟩, BxX.same mm, congrArg Value.bool hb1.out.symm⟩
    try simp only [Act.put, List.getElem_toArray, List.getElem_cons_succ, List.getElem_cons_zero, List.setIfInBounds_toArray, List.set_cons_zero, List.set_cons_succ]
    refine WkH.value (m := 6) (k := 4) (by decide) rfl rfl (of_decide_eq_true (by rfl)) rfl (fun g wv hS hF => ?_) (fun v4 => ?_)
    · obtain ⟨⟨s0, s1, s2, s3⟩, hB2⟩ := hS
      have f3 : v3 = .bool true := hF 3 (by rfl)
      obtain rfl := f3
      exact ⟨.bool true, wv, g, (by go_simp; try with_reducible rfl), ⟨⟨s0, s1, s2, s3⟩, hB2⟩, BxX.same (Mk.refl _ _ _), rfl⟩
    try simp only [Act.put, List.getElem_toArray, List.getElem_cons_succ, List.getElem_cons_zero, List.setIfInBounds_toArray, List.set_cons_zero, List.set_cons_succ]
    refine WkH.valueG (m := 5) (k := 5) (by decide) rfl rfl (of_decide_eq_true (by rfl)) (fun g wv hS hF => by have f4 : v4 = .bool true := hF 4 (by rfl); obtain rfl := f4; rfl) (fun g wv hS hF => ?_) (fun v5 => ?_)
    · obtain ⟨⟨s0, s1, s2, s3⟩, hB2⟩ := hS
      exact ⟨.agg #[.slice a0 n0 c0, .slice a1 n1 c1], wv, g, (by go_simp; try with_reducible rfl), ⟨⟨s0, s1, s2, s3⟩, hB2⟩, BxX.same (Mk.refl _ _ _), rfl⟩
    try simp only [Act.put, List.getElem_toArray, List.getElem_cons_succ, List.getElem_cons_zero, List.setIfInBounds_toArray, List.set_cons_zero, List.set_cons_succ]
    refine WkH.valueG (m := 4) (k := 6) (by decide) rfl rfl (of_decide_eq_true (by rfl)) (fun g wv hS hF => by have f4 : v4 = .bool true := hF 4 (by rfl); obtain rfl := f4; rfl) (fun g wv hS hF => ?_) (fun v6 => ?_)
    · obtain ⟨⟨s0, s1, s2, s3⟩, hB2⟩ := hS
      exact ⟨.agg #[.slice a n c], wv, g, (by go_simp; try with_reducible rfl), ⟨⟨s0, s1, s2, s3⟩, hB2⟩, BxX.same (Mk.refl _ _ _), rfl⟩
    try simp only [Act.put, List.getElem_toArray, List.getElem_cons_succ, List.getElem_cons_zero, List.setIfInBounds_toArray, List.set_cons_zero, List.set_cons_succ]
    refine WkH.callG (m := 3) (k := 7) (by decide) rfl rfl (of_decide_eq_true (by rfl)) (fun g wv hS hF => by have f4 : v4 = .bool true := hF 4 (by rfl); obtain rfl := f4; rfl) (fun g wv hS hF => ?_) (fun v7 => ?_)
    · obtain ⟨⟨s0, s1, s2, s3⟩, hB2⟩ := hS
      have f6 : v6 = .agg #[.slice a n c] := hF 6 (by rfl)
      obtain rfl := f6
      refine ⟨_, _, (by go_simp; first | done | exact ⟨rfl, rfl⟩ | with_reducible rfl), ?_⟩
      refine ((specRevPath a n c B' ps wv (h'.mk s0 hBb' (.inr (Nat.le_refl _))) (Nat.le_trans hBb' s0.size) hn hnc)).mono ?_
      rintro e w' ⟨A, N, C, rfl, cc, o, mm⟩
      exact ⟨_, g, rfl, ⟨⟨s0.trans mm, mm.cellAt s1, mm.cellAt s2, mm.cellAt s3⟩, hB2.mk0 mm⟩, BxX.same mm, ⟨A, N, C, wv.heap.size, w'.heap.size, rfl, o, Nat.le_refl _⟩⟩
    try simp only [Act.put, List.getElem_toArray, List.getElem_cons_succ, List.getElem_cons_zero, List.setIfInBounds_toArray, List.set_cons_zero, List.set_cons_succ]
    refine WkH.valueG (m := 2) (k := 8) (by decide) rfl rfl (of_decide_eq_true (by rfl)) (fun g wv hS hF => by have f4 : v4 = .bool true := hF 4 (by rfl); obtain rfl := f4; rfl) (fun g wv hS hF => ?_) (fun v8 => ?_)
    · obtain ⟨⟨s0, s1, s2, s3⟩, hB2⟩ := hS
      exact ⟨.int .i64 t, wv, g, (by go_simp; try with_reducible rfl), ⟨⟨s0, s1, s2, s3⟩, hB2⟩, BxX.same (Mk.refl _ _ _), rfl⟩
    try simp only [Act.put, List.getElem_toArray, List.getElem_cons_succ, List.getElem_cons_zero, List.setIfInBounds_toArray, List.set_cons_zero, List.set_cons_succ]
    refine WkH.callG (m := 1) (k := 9) (by decide) rfl rfl (of_decide_eq_true (by rfl)) (fun g wv hS hF => by have f4 : v4 = .bool true := hF 4 (by rfl); obtain rfl := f4; rfl) (fun g wv hS hF => ?_) (fun v9 => ?_)
    · obtain ⟨⟨s0, s1, s2, s3⟩, hB2⟩ := hS
      have f5 : v5 = .agg #[.slice a0 n0 c0, .slice a1 n1 c1] := hF 5 (by rfl)
      obtain rfl := f5
      have f7 : ∃ (A : Option Addr) (N C lo hi : Nat), v7 = .agg #[.slice A N C] ∧ OwnN WPathPart wv lo hi A N (turnL turnPt ps n) ∧ hi ≤ wv.heap.size := hF 7 (by rfl)
      obtain ⟨A, N, C, lo, hi, rfl, o, d3⟩ := f7
      have f8 : v8 = .int .i64 t := hF 8 (by rfl)
      obtain rfl := f8
      refine ⟨_, _, (by go_simp; first | done | exact ⟨rfl, rfl⟩ | with_reducible rfl), ?_⟩
      refine (((specPUse a0 a1 n0 c0 n1 c1 B zs zl A N C wv.heap.size (turnL turnPt ps n) t wv (hz'.mk s0 hBb (.inr (Nat.le_refl _))) (hl'.mk s0 hBb (.inr (Nat.le_refl _))) (Nat.le_trans hBb s0.size) hn0 hn1 hzf (o.hasPathPart.mono d3) (Nat.le_refl _) (by rw [show N = n from o.1.symm.trans (turnL_len _ _ _)]; exact hrs) hrf))).mono ?_
      rintro e w' ⟨rfl, mm⟩
      exact ⟨_, g, rfl, ⟨⟨s0.trans mm, mm.cellAt s1, mm.cellAt s2, mm.cellAt s3⟩, hB2.mk0 mm⟩, BxX.same mm, congrArg Value.bool (show useB n0 zs zl n1 (turnL turnPt ps n) N t = b2 by rw [hb2.out, show N = n from o.1.symm.trans (turnL_len _ _ _)])⟩
    try simp only [Act.put, List.getElem_toArray, List.getElem_cons_succ, List.getElem_cons_zero, List.setIfInBounds_toArray, List.set_cons_zero, List.set_cons_succ]
    refine WkH.value (m := 0) (k := 10) (by decide) rfl rfl (of_decide_eq_true (by rfl)) rfl (fun g wv hS hF => ?_) (fun v10 => ?_)
    · obtain ⟨⟨s0, s1, s2, s3⟩, hB2⟩ := hS
      have f4 : v4 = .bool true := hF 4 (by rfl)
      obtain rfl := f4
      have f9 : v9 = .bool b2 := hF 9 (by rfl)
      obtain rfl := f9
      exact ⟨.bool b2, wv, g, (by go_simp; try with_reducible rfl), ⟨⟨s0, s1, s2, s3⟩, hB2⟩, BxX.same (Mk.refl _ _ _), rfl⟩
    try simp only [Act.put, List.getElem_toArray, List.getElem_cons_succ, List.getElem_cons_zero, List.setIfInBounds_toArray, List.set_cons_zero, List.set_cons_succ]
    refine WkH.done fun gE wE hE hF => ?_
    clear k0 k1 u0
    obtain ⟨⟨mE, k0, k1, u0⟩, hBE⟩ := hE
    change wpAny _ _ _ _ 1 _ _ _
    have f10 : v10 = .bool b2 := hF 10 (by decide)
    obtain rfl := f10
    clear hF hBE
    refine wpAny_ready (rs := [11]) (by kernel_rfl) (by simp) ?_
    refine (AllReady.cons rfl (fun K hK => ?_) AllReady.nil)
    go_simp
    refine hK _ _ ?_
    clear hK K
    try simp only [Act.put, List.getElem_toArray, List.getElem_cons_succ, List.getElem_cons_zero, List.setIfInBounds_toArray, List.set_cons_zero, List.set_cons_succ]
    refine wpAny_doneN (by kernel_rfl) ?_
    refine ‹∀ (a : Act) (w : World), _ → _› _ _ ?_
    go_wp2_with fail
    go_ret
    exact ⟨rfl, M0.trans mE⟩

set_option maxRecDepth 100000 in
set_option maxHeartbeats 16000000 in
theorem implBidi (a0 a1 : Option Addr) (n0 c0 n1 c1 B : Nat) (zs : List TAS) (zl : List TLink) (a : Option Addr) (n c B' : Nat) (ps : List TPathPart) (t : Int) (w : World) (hz : HasAS w B a0 n0 zs) (hl : HasLink w B a1 n1 zl) (hB : B ≤ w.heap.size) (hn0 : n0 ≤ 1048576) (hn1 : n1 ≤ 1048576) (hzf : ∀ y ∈ zs, TAS.fits y) (h : HasPathPart w B' a n ps) (hB' : B' ≤ w.heap.size) (hn : szPathPart ps n ≤ 1048576) (hf : ∀ y ∈ ps, TPathPart.fits y) (hnc : n ≤ c) :
    Calls Tryz.prog 14 #[.agg #[.slice a0 n0 c0, .slice a1 n1 c1], .agg #[.slice a n c], .int .i64 t] w fun e w' => e = .returned (.bool (useB n0 zs zl n1 ps n t && useB n0 zs zl n1 (turnL turnPt ps n) n t)) ∧ Mk0 w w' := by
  have M0 : Mk0 w ((w.alloc (Obj.cells #[Value.slice a0 n0 c0, Value.slice a1 n1 c1] 35)).alloc (Obj.cells #[Value.slice a n c] 39)) := ((Mk.alloc w (Obj.cells #[Value.slice a0 n0 c0, Value.slice a1 n1 c1] 35)).new (Obj.cells #[Value.slice a n c] 39))
  have k0 : ((w.alloc (Obj.cells #[Value.slice a0 n0 c0, Value.slice a1 n1 c1] 35)).alloc (Obj.cells #[Value.slice a n c] 39)).cell? ⟨w.heap.size, 0, none⟩ = some (.slice a0 n0 c0) := by simp [go_sem]
  have k1 : ((w.alloc (Obj.cells #[Value.slice a0 n0 c0, Value.slice a1 n1 c1] 35)).alloc (Obj.cells #[Value.slice a n c] 39)).cell? ⟨w.heap.size, 1, none⟩ = some (.slice a1 n1 c1) := by simp [go_sem]
  have u0 : ((w.alloc (Obj.cells #[Value.slice a0 n0 c0, Value.slice a1 n1 c1] 35)).alloc (Obj.cells #[Value.slice a n c] 39)).cell? ⟨w.heap.size + 1, 0, none⟩ = some (.slice a n c) := by simp [go_sem]
  have hs0 : ((w.alloc (Obj.cells #[Value.slice a0 n0 c0, Value.slice a1 n1 c1] 35)).alloc (Obj.cells #[Value.slice a n c] 39)).heap.size = w.heap.size + 1 + 1 := by simp only [World.size_alloc]
  have hrs : szPathPart (turnL turnPt ps n) n ≤ 1048576 := by rw [turnPt_sz]; exact hn
  have hrf := turnL_fits h.1 hf
  obtain ⟨b1, hb1⟩ : ∃ b, b = useB n0 zs zl n1 ps n t := ⟨_, rfl⟩
  obtain ⟨b2, hb2⟩ : ∃ b, b = useB n0 zs zl n1 (turnL turnPt ps n) n t := ⟨_, rfl⟩
  rw [← hb1, ← hb2]
  replace hb1 := Lib.hid hb1
  replace hb2 := Lib.hid hb2
  have hz' := hz.mk M0 hB (.inr (Nat.le_refl _))
  have hl' := hl.mk M0 hB (.inr (Nat.le_refl _))
  have hBb := Nat.le_trans hB M0.size
  have h' := h.mk M0 hB' (.inr (Nat.le_refl _))
  have hBb' := Nat.le_trans hB' M0.size
  cases b1
  · go_enter Tryz.func14, Tryz.ntmps14
    go_wp2_with fail
    generalize ((w.alloc (Obj.cells #[Value.slice a0 n0 c0, Value.slice a1 n1 c1] 35)).alloc (Obj.cells #[Value.slice a n c] 39)) = wb at *
    refine wp_region_wk (fun w' => Mk0 wb w' ∧ w'.cell? ⟨w.heap.size, 0, none⟩ = some (.slice a0 n0 c0) ∧ w'.cell? ⟨w.heap.size, 1, none⟩ = some (.slice a1 n1 c1) ∧ w'.cell? ⟨w.heap.size + 1, 0, none⟩ = some (.slice a n c)) (by kernel_rfl) (by kernel_rfl) (⟨Mk.drew1 _, k0, k1, u0⟩) ?_
    change Wk _ _ _ _ 12 0 _
    first | (refine Wk.skip (m := 11) (k := 0) rfl (by rfl) ?_) | (refine Wk.step (m := 11) (k := 0) (v := _) rfl (by rfl) (fun wv hS => by obtain ⟨s0, s1, s2, s3⟩ := hS; go_simp; try with_reducible rfl) ?_)
    try simp only [Act.put, List.getElem_toArray, List.getElem_cons_zero, List.setIfInBounds_toArray, List.set_cons_zero, List.set_cons_succ]
    first | (refine Wk.skip (m := 10) (k := 1) rfl (by rfl) ?_) | (refine Wk.step (m := 10) (k := 1) (v := _) rfl (by rfl) (fun wv hS => by obtain ⟨s0, s1, s2, s3⟩ := hS; go_simp; try with_reducible rfl) ?_)
    try simp only [Act.put, List.getElem_toArray, List.getElem_cons_succ, List.getElem_cons_zero, List.setIfInBounds_toArray, List.set_cons_zero, List.set_cons_succ]
    first | (refine Wk.skip (m := 9) (k := 2) rfl (by rfl) ?_) | (refine Wk.step (m := 9) (k := 2) (v := _) rfl (by rfl) (fun wv hS => by obtain ⟨s0, s1, s2, s3⟩ := hS; go_simp; try with_reducible rfl) ?_)
    try simp only [Act.put, List.getElem_toArray, List.getElem_cons_succ, List.getElem_cons_zero, List.setIfInBounds_toArray, List.set_cons_zero, List.set_cons_succ]
    refine Wk.call (m := 8) (k := 3) (v := .bool false) _ _ rfl (by rfl) (fun wv hS => by obtain ⟨s0, s1, s2, s3⟩ := hS; go_simp; first | done | exact ⟨rfl, rfl⟩ | with_reducible rfl) (fun wv hS => ?_) ?_; · obtain ⟨s0, s1, s2, s3⟩ := hS; refine (implPUse a0 a1 n0 c0 n1 c1 B zs zl a n c B' ps t wv (hz'.mk s0 hBb (.inr (Nat.le_refl _))) (hl'.mk s0 hBb (.inr (Nat.le_refl _))) (Nat.le_trans hBb s0.size) hn0 hn1 hzf (h'.mk s0 hBb' (.inr (Nat.le_refl _))) (Nat.le_trans hBb' s0.size) hn hf).mono ?_; rintro e w' ⟨he, mm⟩; exact ⟨by rw [he, ← hb1.out], ⟨s0.trans mm, mm.cellAt s1, mm.cellAt s2, mm.cellAt s3⟩⟩
    try simp only [Act.put, List.getElem_toArray, List.getElem_cons_succ, List.getElem_cons_zero, List.setIfInBounds_toArray, List.set_cons_zero, List.set_cons_succ]
    first | (refine Wk.skip (m := 7) (k := 4) rfl (by rfl) ?_) | (refine Wk.step (m := 7) (k := 4) (v := _) rfl (by rfl) (fun wv hS => by obtain ⟨s0, s1, s2, s3⟩ := hS; go_simp; try with_reducible rfl) ?_)
    try simp only [Act.put, List.getElem_toArray, List.getElem_cons_succ, List.getElem_cons_zero, List.setIfInBounds_toArray, List.set_cons_zero, List.set_cons_succ]
    first | (refine Wk.skip (m := 6) (k := 5) rfl (by rfl) ?_) | (refine Wk.step (m := 6) (k := 5) (v := _) rfl (by rfl) (fun wv hS => by obtain ⟨s0, s1, s2, s3⟩ := hS; go_simp; try with_reducible rfl) ?_)
    try simp only [Act.put, List.getElem_toArray, List.getElem_cons_succ, List.getElem_cons_zero, List.setIfInBounds_toArray, List.set_cons_zero, List.set_cons_succ]
    first | (refine Wk.skip (m := 5) (k := 6) rfl (by rfl) ?_) | (refine Wk.step (m := 5) (k := 6) (v := _) rfl (by rfl) (fun wv hS => by obtain ⟨s0, s1, s2, s3⟩ := hS; go_simp; try with_reducible rfl) ?_)
    try simp only [Act.put, List.getElem_toArray, List.getElem_cons_succ, List.getElem_cons_zero, List.setIfInBounds_toArray, List.set_cons_zero, List.set_cons_succ]
    refine Wk.skip (m := 4) (k := 7) rfl (by rfl) ?_
    try simp only [Act.put, List.getElem_toArray, List.getElem_cons_succ, List.getElem_cons_zero, List.setIfInBounds_toArray, List.set_cons_zero, List.set_cons_succ]
    first | (refine Wk.skip (m := 3) (k := 8) rfl (by rfl) ?_) | (refine Wk.step (m := 3) (k := 8) (v := _) rfl (by rfl) (fun wv hS => by obtain ⟨s0, s1, s2, s3⟩ := hS; go_simp; try with_reducible rfl) ?_)
    try simp only [Act.put, List.getElem_toArray, List.getElem_cons_succ, List.getElem_cons_zero, List.setIfInBounds_toArray, List.set_cons_zero, List.set_cons_succ]
    refine Wk.skip (m := 2) (k := 9) rfl (by rfl) ?_
    try simp only [Act.put, List.getElem_toArray, List.getElem_cons_succ, List.getElem_cons_zero, List.setIfInBounds_toArray, List.set_cons_zero, List.set_cons_succ]
    first | (refine Wk.skip (m := 1) (k := 10) rfl (by rfl) ?_) | (refine Wk.step (m := 1) (k := 10) (v := _) rfl (by rfl) (fun wv hS => by obtain ⟨s0, s1, s2, s3⟩ := hS; go_simp; try with_reducible rfl) ?_)
    try simp only [Act.put, List.getElem_toArray, List.getElem_cons_succ, List.getElem_cons_zero, List.setIfInBounds_toArray, List.set_cons_zero, List.set_cons_succ]
    first | (refine Wk.skip (m := 0) (k := 11) rfl (by rfl) ?_) | (refine Wk.step (m := 0) (k := 11) (v := _) rfl (by rfl) (fun wv hS => by obtain ⟨s0, s1, s2, s3⟩ := hS; go_simp; try with_reducible rfl) ?_)
    try simp only [Act.put, List.getElem_toArray, List.getElem_cons_succ, List.getElem_cons_zero, List.setIfInBounds_toArray, List.set_cons_zero, List.set_cons_succ]
    refine Wk.done fun wE hE => ?_
    clear k0 k1 u0
    obtain ⟨mE, k0, k1, u0⟩ := hE
    go_wp2_with fail
    go_ret
    exact ⟨rfl, M0.trans mE⟩
  · go_enter Tryz.func14, Tryz.ntmps14
    go_wp2_with fail
    generalize ((w.alloc (Obj.cells #[Value.slice a0 n0 c0, Value.slice a1 n1 c1] 35)).alloc (Obj.cells #[Value.slice a n c] 39)) = wb at *
    refine wp_region_fh (fun (g : Bxs) w' => (Mk0 wb w' ∧ w'.cell? ⟨w.heap.size, 0, none⟩ = some (.slice a0 n0 c0) ∧ w'.cell? ⟨w.heap.size, 1, none⟩ = some (.slice a1 n1 c1) ∧ w'.cell? ⟨w.heap.size + 1, 0, none⟩ = some (.slice a n c)) ∧ BxS wb.heap.size g w') (fhF [fun g x wv => (x 0) = .agg #[.slice a0 n0 c0, .slice a1 n1 c1], fun g x wv => (x 1) = .agg #[.slice a n c], fun g x wv => (x 2) = .int .i64 t, fun g x wv => (x 3) = .bool true, fun g x wv => (x 4) = .bool true, fun g x wv => (x 5) = .agg #[.slice a0 n0 c0, .slice a1 n1 c1], fun g x wv => (x 6) = .agg #[.slice a n c], fun g x wv => ∃ (A : Option Addr) (N C lo hi : Nat), (x 7) = .agg #[.slice A N C] ∧ OwnN WPathPart wv lo hi A N (turnL turnPt ps n) ∧ hi ≤ wv.heap.size, fun g x wv => (x 8) = .int .i64 t, fun g x wv => (x 9) = .bool b2, fun g x wv => (x 10) = .bool b2]) BxX (fun _ _ => False) (spL [[0], [1], [2], [3], [4], [5], [6], [7], [8], [9], [10]]) 12 11 (by kernel_rfl) (by kernel_rfl) (by kernel_rfl) (by decide) (by decide) (by kernel_rfl) (fun h => absurd h (by decide)) (fhM_mono ⟨fun g g' v w w' h x => h, fun g g' v w w' h x => h, fun g g' v w w' h x => h, fun g g' v w w' h x => h, fun g g' v w w' h x => h, fun g g' v w w' h x => h, fun g g' v w w' h x => h, fun g g' v w w' h x => (by obtain ⟨A, N, C, lo, hi, e, o, d3⟩ := h; exact ⟨A, N, C, lo, hi, e, o.mk x.far d3 (.inr (.inr (Nat.le_refl _))), Nat.le_trans d3 x.far.size⟩), fun g g' v w w' h x => h, fun g g' v w w' h x => h, fun g g' v w w' h x => h, trivial⟩) ⟨⟨Mk.drew1 _, k0, k1, u0⟩, BxS.none_ _ _⟩ ?_
    change WkH _ _ _ _ _ _ _ 12 11 11 0 _
    refine WkH.value (m := 10) (k := 0) (by decide) rfl rfl (of_decide_eq_true (by rfl)) rfl (fun g wv hS hF => ?_) (fun v0 => ?_)
    · obtain ⟨⟨s0, s1, s2, s3⟩, hB2⟩ := hS
      exact ⟨.agg #[.slice a0 n0 c0, .slice a1 n1 c1], wv, g, (by go_simp; try with_reducible rfl), ⟨⟨s0, s1, s2, s3⟩, hB2⟩, BxX.same (Mk.refl _ _ _), rfl⟩
    try simp only [Act.put, List.getElem_toArray, List.getElem_cons_zero, List.setIfInBounds_toArray, List.set_cons_zero, List.set_cons_succ]
    refine WkH.value (m := 9) (k := 1) (by decide) rfl rfl (of_decide_eq_true (by rfl)) rfl (fun g wv hS hF => ?_) (fun v1 => ?_)
    · obtain ⟨⟨s0, s1, s2, s3⟩, hB2⟩ := hS
      exact ⟨.agg #[.slice a n c], wv, g, (by go_simp; try with_reducible rfl), ⟨⟨s0, s1, s2, s3⟩, hB2⟩, BxX.same (Mk.refl _ _ _), rfl⟩
    try simp only [Act.put, List.getElem_toArray, List.getElem_cons_succ, List.getElem_cons_zero, List.setIfInBounds_toArray, List.set_cons_zero, List.set_cons_succ]
    refine WkH.value (m := 8) (k := 2) (by decide) rfl rfl (of_decide_eq_true (by rfl)) rfl (fun g wv hS hF => ?_) (fun v2 => ?_)
    · obtain ⟨⟨s0, s1, s2, s3⟩, hB2⟩ := hS
      exact ⟨.int .i64 t, wv, g, (by go_simp; try with_reducible rfl), ⟨⟨s0, s1, s2, s3⟩, hB2⟩, BxX.same (Mk.refl _ _ _), rfl⟩
    try simp only [Act.put, List.getElem_toArray, List.getElem_cons_succ, List.getElem_cons_zero, List.setIfInBounds_toArray, List.set_cons_zero, List.set_cons_succ]
    refine WkH.call (m := 7) (k := 3) (by decide) rfl rfl (of_decide_eq_true (by rfl)) rfl (fun g wv hS hF => ?_) (fun v3 => ?_)
    · obtain ⟨⟨s0, s1, s2, s3⟩, hB2⟩ := hS
      have f0 : v0 = .agg #[.slice a0 n0 c0, .slice a1 n1 c1] := hF 0 (by rfl)
      obtain rfl := f0
      have f1 : v1 = .agg #[.slice a n c] := hF 1 (by rfl)
      obtain rfl := f1
      have f2 : v2 = .int .i64 t := hF 2 (by rfl)
      obtain rfl := f2
      refine ⟨_, _, (by go_simp; first | done | exact ⟨rfl, rfl⟩ | with_reducible rfl), ?_⟩
      refine ((implPUse a0 a1 n0 c0 n1 c1 B zs zl a n c B' ps t wv (hz'.mk s0 hBb (.inr (Nat.le_refl _))) (hl'.mk s0 hBb (.inr (Nat.le_refl _))) (Nat.le_trans hBb s0.size) hn0 hn1 hzf (h'.mk s0 hBb' (.inr (Nat.le_refl _))) (Nat.le_trans hBb' s0.size) hn hf)).mono ?_
      rintro e w' ⟨rfl, mm⟩
      exact ⟨_, g, rfl, ⟨⟨s0.trans mm, mm.cellAt s1, mm.cellAt s2, mm.cellAt s3⟩, hB2.mk0 mm⟩, BxX.same mm, congrArg Value.bool hb1.out.symm⟩
    try simp only [Act.put, List.getElem_toArray, List.getElem_cons_succ, List.getElem_cons_zero, List.setIfInBounds_toArray, List.set_cons_zero, List.set_cons_succ]
    refine WkH.value (m := 6) (k := 4) (by decide) rfl rfl (of_decide_eq_true (by rfl)) rfl (fun g wv hS hF => ?_) (fun v4 => ?_)
    · obtain ⟨⟨s0, s1, s2, s3⟩, hB2⟩ := hS
      have f3 : v3 = .bool true := hF 3 (by rfl)
      obtain rfl := f3
      exact ⟨.bool true, wv, g, (by go_simp; try with_reducible rfl), ⟨⟨s0, s1, s2, s3⟩, hB2⟩, BxX.same (Mk.refl _ _ _), rfl⟩
    try simp only [Act.put, List.getElem_toArray, List.getElem_cons_succ, List.getElem_cons_zero, List.setIfInBounds_toArray, List.set_cons_zero, List.set_cons_succ]
    refine WkH.valueG (m := 5) (k := 5) (by decide) rfl rfl (of_decide_eq_true (by rfl)) (fun g wv hS hF => by have f4 : v4 = .bool true := hF 4 (by rfl); obtain rfl := f4; rfl) (fun g wv hS hF => ?_) (fun v5 => ?_)
    · obtain ⟨⟨s0, s1, s2, s3⟩, hB2⟩ := hS
      exact ⟨.agg #[.slice a0 n0 c0, .slice a1 n1 c1], wv, g, (by go_simp; try with_reducible rfl), ⟨⟨s0, s1, s2, s3⟩, hB2⟩, BxX.same (Mk.refl _ _ _), rfl⟩
    try simp only [Act.put, List.getElem_toArray, List.getElem_cons_succ, List.getElem_cons_zero, List.setIfInBounds_toArray, List.set_cons_zero, List.set_cons_succ]
    refine WkH.valueG (m := 4) (k := 6) (by decide) rfl rfl (of_decide_eq_true (by rfl)) (fun g wv hS hF => by have f4 : v4 = .bool true := hF 4 (by rfl); obtain rfl := f4; rfl) (fun g wv hS hF => ?_) (fun v6 => ?_)
    · obtain ⟨⟨s0, s1, s2, s3⟩, hB2⟩ := hS
      exact ⟨.agg #[.slice a n c], wv, g, (by go_simp; try with_reducible rfl), ⟨⟨s0, s1, s2, s3⟩, hB2⟩, BxX.same (Mk.refl _ _ _), rfl⟩
    try simp only [Act.put, List.getElem_toArray, List.getElem_cons_succ, List.getElem_cons_zero, List.setIfInBounds_toArray, List.set_cons_zero, List.set_cons_succ]
    refine WkH.callG (m := 3) (k := 7) (by decide) rfl rfl (of_decide_eq_true (by rfl)) (fun g wv hS hF => by have f4 : v4 = .bool true := hF 4 (by rfl); obtain rfl := f4; rfl) (fun g wv hS hF => ?_) (fun v7 => ?_)
    · obtain ⟨⟨s0, s1, s2, s3⟩, hB2⟩ := hS
      have f6 : v6 = .agg #[.slice a n c] := hF 6 (by rfl)
      obtain rfl := f6
      refine ⟨_, _, (by go_simp; first | done | exact ⟨rfl, rfl⟩ | with_reducible rfl), ?_⟩
      refine ((implRevPath a n c B' ps wv (h'.mk s0 hBb' (.inr (Nat.le_refl _))) (Nat.le_trans hBb' s0.size) hn hnc)).mono ?_
      rintro e w' ⟨A, N, C, rfl, cc, o, mm⟩
      exact ⟨_, g, rfl, ⟨⟨s0.trans mm, mm.cellAt s1, mm.cellAt s2, mm.cellAt s3⟩, hB2.mk0 mm⟩, BxX.same mm, ⟨A, N, C, wv.heap.size, w'.heap.size, rfl, o, Nat.le_refl _⟩⟩
    try simp only [Act.put, List.getElem_toArray, List.getElem_cons_succ, List.getElem_cons_zero, List.setIfInBounds_toArray, List.set_cons_zero, List.set_cons_succ]
    refine WkH.valueG (m := 2) (k := 8) (by decide) rfl rfl (of_decide_eq_true (by rfl)) (fun g wv hS hF => by have f4 : v4 = .bool true := hF 4 (by rfl); obtain rfl := f4; rfl) (fun g wv hS hF => ?_) (fun v8 => ?_)
    · obtain ⟨⟨s0, s1, s2, s3⟩, hB2⟩ := hS
      exact ⟨.int .i64 t, wv, g, (by go_simp; try with_reducible rfl), ⟨⟨s0, s1, s2, s3⟩, hB2⟩, BxX.same (Mk.refl _ _ _), rfl⟩
    try simp only [Act.put, List.getElem_toArray, List.getElem_cons_succ, List.getElem_cons_zero, List.setIfInBounds_toArray, List.set_cons_zero, List.set_cons_succ]
    refine WkH.callG (m := 1) (k := 9) (by decide) rfl rfl (of_decide_eq_true (by rfl)) (fun g wv hS hF => by have f4 : v4 = .bool true := hF 4 (by rfl); obtain rfl := f4; rfl) (fun g wv hS hF => ?_) (fun v9 => ?_)
    · obtain ⟨⟨s0, s1, s2, s3⟩, hB2⟩ := hS
      have f5 : v5 = .agg #[.slice a0 n0 c0, .slice a1 n1 c1] := hF 5 (by rfl)
      obtain rfl := f5
      have f7 : ∃ (A : Option Addr) (N C lo hi : Nat), v7 = .agg #[.slice A N C] ∧ OwnN WPathPart wv lo hi A N (turnL turnPt ps n) ∧ hi ≤ wv.heap.size := hF 7 (by rfl)
      obtain ⟨A, N, C, lo, hi, rfl, o, d3⟩ := f7
      have f8 : v8 = .int .i64 t := hF 8 (by rfl)
      obtain rfl := f8
      refine ⟨_, _, (by go_simp; first | done | exact ⟨rfl, rfl⟩ | with_reducible rfl), ?_⟩
      refine (((implPUse a0 a1 n0 c0 n1 c1 B zs zl A N C wv.heap.size (turnL turnPt ps n) t wv (hz'.mk s0 hBb (.inr (Nat.le_refl _))) (hl'.mk s0 hBb (.inr (Nat.le_refl _))) (Nat.le_trans hBb s0.size) hn0 hn1 hzf (o.hasPathPart.mono d3) (Nat.le_refl _) (by rw [show N = n from o.1.symm.trans (turnL_len _ _ _)]; exact hrs) hrf))).mono ?_
      rintro e w' ⟨rfl, mm⟩
      exact ⟨_, g, rfl, ⟨⟨s0.trans mm, mm.cellAt s1, mm.cellAt s2, mm.cellAt s3⟩, hB2.mk0 mm⟩, BxX.same mm, congrArg Value.bool (show useB n0 zs zl n1 (turnL turnPt ps n) N t = b2 by rw [hb2.out, show N = n from o.1.symm.trans (turnL_len _ _ _)])⟩
    try simp only [Act.put, List.getElem_toArray, List.getElem_cons_succ, List.getElem_cons_zero, List.setIfInBounds_toArray, List.set_cons_zero, List.set_cons_succ]
    refine WkH.value (m := 0) (k := 10) (by decide) rfl rfl (of_decide_eq_true (by rfl)) rfl (fun g wv hS hF => ?_) (fun v10 => ?_)
    · obtain ⟨⟨s0, s1, s2, s3⟩, hB2⟩ := hS
      have f4 : v4 = .bool true := hF 4 (by rfl)
      obtain rfl := f4
      have f9 : v9 = .bool b2 := hF 9 (by rfl)
      obtain rfl := f9
      exact ⟨.bool b2, wv, g, (by go_simp; try with_reducible rfl), ⟨⟨s0, s1, s2, s3⟩, hB2⟩, BxX.same (Mk.refl _ _ _), rfl⟩
    try simp only [Act.put, List.getElem_toArray, List.getElem_cons_succ, List.getElem_cons_zero, List.setIfInBounds_toArray, List.set_cons_zero, List.set_cons_succ]
    refine WkH.done fun gE wE hE hF => ?_
    clear k0 k1 u0
    obtain ⟨⟨mE, k0, k1, u0⟩, hBE⟩ := hE
    change wpAny _ _ _ _ 1 _ _ _
    have f10 : v10 = .bool b2 := hF 10 (by decide)
    obtain rfl := f10
    clear hF hBE
    refine wpAny_ready (rs := [11]) (by kernel_rfl) (by simp) ?_
    refine (AllReady.cons rfl (fun K hK => ?_) AllReady.nil)
    go_simp
    refine hK _ _ ?_
    clear hK K
    try simp only [Act.put, List.getElem_toArray, List.getElem_cons_succ, List.getElem_cons_zero, List.setIfInBounds_toArray, List.set_cons_zero, List.set_cons_succ]
    refine wpAny_doneN (by kernel_rfl) ?_
    refine ‹∀ (a : Act) (w : World), _ → _› _ _ ?_
    go_wp2_with fail
    go_ret
    exact ⟨rfl, M0.trans mE⟩

end Go.Proofs.YtifhhfndoifbhaaGreat
