
/- Rows of elements of several cells, whose content is a list; worlds that part within a range of blocks. -/
import Derived.Test.YtoicmmandniagaaMem
namespace Go.Proofs.Ytoicmmandniagaa
open Go Go.RowKit
set_option linter.unusedVariables false

def flat {α : Type} [Inhabited α] (nc : Nat) (cell : α → Nat → Value) (zs : List α) (j : Nat) : Value := cell (zs.getD (j / nc) default) (j % nc)
theorem flat_at {α : Type} [Inhabited α] {nc : Nat} {cell : α → Nat → Value} (zs : List α) (i j : Nat) (hj : j < nc) : flat nc cell zs (i * nc + j) = cell (zs.getD i default) j := by
  have h0 : 0 < nc := by omega
  unfold flat
  rw [Nat.add_comm, Nat.add_mul_div_right _ _ h0, Nat.div_eq_of_lt hj, Nat.add_mul_mod_self_right, Nat.mod_eq_of_lt hj, Nat.zero_add]
theorem flat_le {nc n i j : Nat} (hi : i < n) (hj : j < nc) : i * nc + j < n * nc := by
  have : (i + 1) * nc ≤ n * nc := Nat.mul_le_mul_right _ hi
  rw [Nat.succ_mul] at this
  omega

/-- A slice of n elements of nc cells reads as zs, in a block below B. -/
def HasR {α : Type} [Inhabited α] (nc : Nat) (cell : α → Nat → Value) (w : World) (B : Nat) (a : Option Addr) (n : Nat) (zs : List α) : Prop :=
  zs.length = n ∧ (0 < n → ∃ b off, a = some ⟨b, off, none⟩ ∧ b < B ∧ ∀ j, j < n * nc → w.cell? ⟨b, off + j, none⟩ = some (flat nc cell zs j))

/-- The same of a row that lies in the blocks from lo to hi, and that may be written. -/
def OwnR {α : Type} [Inhabited α] (nc : Nat) (cell : α → Nat → Value) (w : World) (lo hi : Nat) (a : Option Addr) (n : Nat) (zs : List α) : Prop :=
  zs.length = n ∧ (0 < n → ∃ b off, a = some ⟨b, off, none⟩ ∧ lo ≤ b ∧ b < hi ∧ ∀ j, j < n * nc → w.cell? ⟨b, off + j, none⟩ = some (flat nc cell zs j) ∧ w.frozen? ⟨b, off + j, none⟩ = false)

/-- What was there stands, but for the blocks from lo to hi. -/
structure Mk (lo hi : Nat) (w w' : World) : Prop where
  os : w'.os = w.os
  tape : w'.tape = w.tape
  output : w'.output = w.output
  size : w.heap.size ≤ w'.heap.size
  block : ∀ k, k < w.heap.size → (k < lo ∨ hi ≤ k) → w'.heap[k]? = w.heap[k]?
/-- Nothing that was there has turned. -/
abbrev Mk0 (w w' : World) : Prop := Mk 0 0 w w'
section
variable {lo hi : Nat} {w w' w'' : World}
theorem Mk.refl (lo hi : Nat) (w : World) : Mk lo hi w w := ⟨rfl, rfl, rfl, Nat.le_refl _, fun _ _ _ => rfl⟩
theorem Mk.trans (h : Mk lo hi w w') (k : Mk lo hi w' w'') : Mk lo hi w w'' :=
  ⟨k.os.trans h.os, k.tape.trans h.tape, k.output.trans h.output, Nat.le_trans h.size k.size, fun i hi hr => (k.block i (Nat.lt_of_lt_of_le hi h.size) hr).trans (h.block i hi hr)⟩
theorem Mk.wide {lo' hi' : Nat} (h : Mk lo hi w w') (hl : hi ≤ lo ∨ (lo' ≤ lo ∧ hi ≤ hi')) : Mk lo' hi' w w' := ⟨h.os, h.tape, h.output, h.size, fun k hk hr => h.block k hk (by omega)⟩
theorem Mk.of_below (h : Below w.heap.size w w') : Mk0 w w' := ⟨h.os, h.tape, h.output, h.size, fun k hk _ => h.block k hk⟩
theorem Mk.below {w0 : World} {B : Nat} (h : Mk lo hi w w') (hb : Below B w0 w) (hB : B ≤ w.heap.size) (hr : B ≤ lo ∨ hi ≤ lo) : Below B w0 w' :=
  hb.trans ⟨h.os, h.tape, h.output, h.size, fun k hk => h.block k (by omega) (by omega)⟩
theorem Mk.below0 (h : Mk0 w w') : Below w.heap.size w w' := ⟨h.os, h.tape, h.output, h.size, fun k hk => h.block k hk (by omega)⟩
theorem Mk.cell (h : Mk lo hi w w') {b o : Nat} (hb : b < w.heap.size) (hr : b < lo ∨ hi ≤ b) : w'.cell? ⟨b, o, none⟩ = w.cell? ⟨b, o, none⟩ := World.cell?_of_block (w := w) (h.block b hb hr)
theorem Mk.frozen (h : Mk lo hi w w') {b o : Nat} (hb : b < w.heap.size) (hr : b < lo ∨ hi ≤ b) : w'.frozen? ⟨b, o, none⟩ = w.frozen? ⟨b, o, none⟩ := World.frozen?_of_block (w := w) (h.block b hb hr)
/-- Out of a call's grownBy at a row within the range. -/
theorem Mk.of_grown {row : Option Nat} (h : w.grownBy w' row) (hr : ∀ g, row = some g → lo ≤ g ∧ g < hi) : Mk lo hi w w' :=
  ⟨h.os, h.tape, h.output, h.size, fun k hk hn => h.block k hk (fun e => by have := hr k e.symm; omega)⟩
theorem Mk.drewN (w : World) (m : Nat) : Mk0 w (w.drewN m) := ⟨rfl, rfl, rfl, Nat.le_refl _, fun _ _ _ => rfl⟩
theorem Mk.alloc (w : World) (o : Obj) : Mk0 w (w.alloc o) := .of_below ((Below.refl _ _).alloc (Nat.le_refl _) _)
theorem Mk.set (w : World) (p : Addr) (u : Value) (h1 : lo ≤ p.block) (h2 : p.block < hi) : Mk lo hi w (w.setCell p u) :=
  ⟨rfl, rfl, rfl, by simp [World.setCell], fun k hk hr => Below.heap_setCell _ _ _ _ (by omega)⟩
theorem Mk.put {w w' : World} (h : Mk0 w w') (p : Addr) (u : Value) (hp : w.heap.size ≤ p.block) : Mk0 w (w'.setCell p u) := .of_below (h.below0.setCell hp u)
theorem Mk.new {w w' : World} (h : Mk0 w w') (o : Obj) : Mk0 w (w'.alloc o) := h.trans (Mk.alloc _ _)
/-- Old cells behind a call, as rules for the walk. -/
theorem Mk.kept {w w' : World} (h : Mk0 w w') : (∀ b o, b < w.heap.size → w'.cell? ⟨b, o, none⟩ = w.cell? ⟨b, o, none⟩) ∧ (∀ b o, b < w.heap.size → w'.frozen? ⟨b, o, none⟩ = w.frozen? ⟨b, o, none⟩) :=
  ⟨fun b o hb => h.cell hb (.inr (Nat.zero_le _)), fun b o hb => h.frozen hb (.inr (Nat.zero_le _))⟩
theorem Mk.cellAt {w w' : World} (h : Mk0 w w') {b o : Nat} {v : Value} (hc : w.cell? ⟨b, o, none⟩ = some v) : w'.cell? ⟨b, o, none⟩ = some v :=
  (h.cell (World.block_lt_of_cell? w _ hc) (.inr (Nat.zero_le _))).trans hc
theorem Mk.frozenAt {w w' : World} (h : Mk0 w w') {b o : Nat} {v : Value} (hc : w.cell? ⟨b, o, none⟩ = some v) (hf : w.frozen? ⟨b, o, none⟩ = false) : w'.frozen? ⟨b, o, none⟩ = false :=
  (h.frozen (World.block_lt_of_cell? w _ hc) (.inr (Nat.zero_le _))).trans hf
theorem Mk.drew1 (w : World) : Mk0 w w.drew := Mk.drewN w 1
theorem Mk.putR {lo hi : Nat} {w w' : World} (h : Mk lo hi w w') (p : Addr) (u : Value) (h1 : lo ≤ p.block) (h2 : p.block < hi) : Mk lo hi w (w'.setCell p u) := h.trans (Mk.set _ _ _ h1 h2)
theorem Mk.andR {lo hi : Nat} {w w1 w2 : World} (h : Mk0 w w1) (m : Mk lo hi w1 w2) (hl : w.heap.size ≤ lo ∨ hi ≤ lo) : Mk0 w w2 := .of_below (m.below h.below0 h.size hl)
theorem Mk.cellAtR {lo hi : Nat} {w w' : World} (h : Mk lo hi w w') {b o : Nat} {v : Value} (hc : w.cell? ⟨b, o, none⟩ = some v) (hr : b < lo ∨ hi ≤ b) : w'.cell? ⟨b, o, none⟩ = some v :=
  (h.cell (World.block_lt_of_cell? w _ hc) hr).trans hc
/-- A world is given a name; its size is told. -/
theorem sized (w : World) {P : World → Prop} (h : ∀ w', w' = w → w'.heap.size = w.heap.size → P w') : P w := h w rfl rfl
end

/-- A box: the cells of a block from its head on. -/
def Bx (w : World) (b : Nat) (vs : List Value) : Prop := ∀ j v, vs[j]? = some v → w.cell? ⟨b, j, none⟩ = some v
theorem Bx.mk {lo hi : Nat} {w w' : World} {b : Nat} {vs : List Value} (h : Bx w b vs) (hm : Mk lo hi w w') (hb : b < w.heap.size) (hr : b < lo ∨ hi ≤ b) : Bx w' b vs :=
  fun j v hv => (hm.cell hb hr).trans (h j v hv)
theorem Bx.new (w : World) (vs : List Value) (t : TypeId) : Bx (w.alloc (.cells vs.toArray t)) w.heap.size vs := fun j v hv => by
  rw [World.cell?_alloc_at _ _ _ _ rfl]
  simpa using hv
theorem Bx.low {w : World} {b : Nat} {vs : List Value} (h : Bx w b vs) (o : Obj) (hb : b < w.heap.size) : Bx (w.alloc o) b vs := h.mk (Mk.alloc w o) hb (.inr (Nat.zero_le _))

section
variable {α : Type} [Inhabited α] {nc : Nat} {cell : α → Nat → Value} {w w' : World} {B lo hi n : Nat} {a : Option Addr} {zs : List α}
theorem HasR.at_ (h : HasR nc cell w B a n zs) {i : Nat} (hi : i < n) : ∃ b off x, a = some ⟨b, off, none⟩ ∧ b < B ∧ Hid (x = zs.getD i default) ∧ ∀ j, j < nc → w.cell? ⟨b, off + (i * nc + j), none⟩ = some (cell x j) := by
  obtain ⟨b, off, e, hb, hc⟩ := h.2 (by omega)
  exact ⟨b, off, _, e, hb, rfl, fun j hj => by rw [hc _ (flat_le hi hj), flat_at _ _ _ hj]⟩
theorem HasR.mono {B' : Nat} (h : HasR nc cell w B a n zs) (hB : B ≤ B') : HasR nc cell w B' a n zs :=
  ⟨h.1, fun hn => by
    obtain ⟨b, off, e, hb, hc⟩ := h.2 hn
    exact ⟨b, off, e, by omega, hc⟩⟩
theorem HasR.mk {lo' hi' : Nat} (h : HasR nc cell w B a n zs) (hm : Mk lo' hi' w w') (hB : B ≤ w.heap.size) (hr : B ≤ lo' ∨ hi' ≤ lo') : HasR nc cell w' B a n zs :=
  ⟨h.1, fun hn => by
    obtain ⟨b, off, e, hb, hc⟩ := h.2 hn
    exact ⟨b, off, e, hb, fun j hj => (hm.cell (by omega) (by omega)).trans (hc j hj)⟩⟩
theorem OwnR.has (h : OwnR nc cell w lo hi a n zs) : HasR nc cell w hi a n zs :=
  ⟨h.1, fun hn => by
    obtain ⟨b, off, e, _, hb, hc⟩ := h.2 hn
    exact ⟨b, off, e, hb, fun j hj => (hc j hj).1⟩⟩
theorem OwnR.mk {lo' hi' : Nat} (h : OwnR nc cell w lo hi a n zs) (hm : Mk lo' hi' w w') (hB : hi ≤ w.heap.size) (hr : hi ≤ lo' ∨ hi' ≤ lo ∨ hi' ≤ lo') : OwnR nc cell w' lo hi a n zs :=
  ⟨h.1, fun hn => by
    obtain ⟨b, off, e, hl, hb, hc⟩ := h.2 hn
    exact ⟨b, off, e, hl, hb, fun j hj => ⟨(hm.cell (by omega) (by omega)).trans (hc j hj).1, (hm.frozen (by omega) (by omega)).trans (hc j hj).2⟩⟩⟩
theorem OwnR.wide {lo' hi' : Nat} (h : OwnR nc cell w lo hi a n zs) (hl : lo' ≤ lo) (hh : hi ≤ hi') : OwnR nc cell w lo' hi' a n zs :=
  ⟨h.1, fun hn => by
    obtain ⟨b, off, e, hl, hb, hc⟩ := h.2 hn
    exact ⟨b, off, e, by omega, by omega, hc⟩⟩
theorem OwnR.set (h : OwnR nc cell w lo hi a n zs) (p : Addr) (u : Value) (hp : p.block < lo ∨ hi ≤ p.block) : OwnR nc cell (w.setCell p u) lo hi a n zs :=
  ⟨h.1, fun hn => by
    obtain ⟨b, off, e, hl, hb, hc⟩ := h.2 hn
    have hk : (w.setCell p u).heap[b]? = w.heap[b]? := Below.heap_setCell w p u b (by omega)
    exact ⟨b, off, e, hl, hb, fun j hj => ⟨(World.cell?_of_block (w := w) hk).trans (hc j hj).1, (World.frozen?_of_block (w := w) hk).trans (hc j hj).2⟩⟩⟩
theorem World.size_set (w : World) (p : Addr) (u : Value) : (w.setCell p u).heap.size = w.heap.size := by simp [World.setCell]
theorem OwnR.none_ (w : World) (lo hi : Nat) (a : Option Addr) : OwnR nc cell w lo hi a 0 [] := ⟨rfl, fun h => absurd h (by omega)⟩
theorem HasR.none_ (w : World) (B : Nat) (a : Option Addr) : HasR nc cell w B a 0 [] := ⟨rfl, fun h => absurd h (by omega)⟩
theorem OwnR.row (h : OwnR nc cell w lo hi a n zs) : ∀ g, rowOf a n = some g → lo ≤ g ∧ g < hi := by
  intro g hg
  unfold rowOf at hg
  split at hg
  · cases hg
  · obtain ⟨b, off, rfl, hl, hh, _⟩ := h.2 (by omega)
    simp at hg
    omega
theorem OwnR.fill {b off : Nat} (h : OwnR nc cell w lo hi (some ⟨b, off, none⟩) n zs) (f : Nat → Value) : Fill w b off (n * nc) 0 f := by
  intro j hj
  have hn : 0 < n := Nat.pos_of_ne_zero (fun e => by subst e; simp at hj)
  obtain ⟨b', off', e, _, _, hc⟩ := h.2 hn
  simp only [Option.some.injEq, Addr.mk.injEq, and_true] at e
  obtain ⟨rfl, rfl⟩ := e
  exact ⟨_, (hc j hj).1, (hc j hj).2, fun h => absurd h (by omega)⟩
theorem Fill.ownR {b off : Nat} {f : Nat → Value} (h : Fill w b off (n * nc) (n * nc) f) (hz : zs.length = n) (hf : ∀ i, i < n → ∀ j, j < nc → f (i * nc + j) = cell (zs.getD i default) j) (hl : lo ≤ b) (hh : b < hi) (h0 : 0 < nc) : OwnR nc cell w lo hi (some ⟨b, off, none⟩) n zs :=
  ⟨hz, fun hn => ⟨b, off, rfl, hl, hh, fun j hj => by
    have e : j = j / nc * nc + j % nc := by rw [Nat.mul_comm]; exact (Nat.div_add_mod j nc).symm
    have hi' : j / nc < n := Nat.div_lt_of_lt_mul (by rw [Nat.mul_comm]; exact hj)
    have hj' : j % nc < nc := Nat.mod_lt _ h0
    have := hf _ hi' _ hj'
    rw [← e] at this
    show _ = some (cell (zs.getD (j / nc) default) (j % nc)) ∧ _
    rw [← this]
    exact h.all j hj⟩⟩
end
/-- The flat content of a row is f. -/
theorem Fill.congr_ {w : World} {b off n i : Nat} {f g : Nat → Value} (h : Fill w b off n i f) (hfg : ∀ j, j < i → f j = g j) : Fill w b off n i g := by
  intro j hj
  obtain ⟨v, h1, h2, h3⟩ := h j hj
  exact ⟨v, h1, h2, fun hlt => (h3 hlt).trans (hfg j hlt)⟩

theorem ownsRow_fillR {w : World} {base g n cap nc : Nat} {e : TypeId} {xs : List Value} (h : w.ownsRow base e nc (.slice (some ⟨g, 0, none⟩) n cap) n xs) (f : Nat → Value) : Fill w g 0 (n * nc) 0 f := by
  intro j hj
  have hl : j < xs.length := by have := h.1; omega
  refine ⟨xs[j], ?_, ?_, fun h => absurd h (by omega)⟩
  · rw [Nat.zero_add, h.cellAt j (by omega)]; exact List.getElem?_eq_getElem hl
  · rw [Nat.zero_add]; exact h.frozenAt j
theorem Fill.any {w : World} {b off n i : Nat} {f : Nat → Value} (h : Fill w b off n i f) (j : Nat) (hj : j < n) : ∃ v, w.cell? ⟨b, off + j, none⟩ = some v ∧ w.frozen? ⟨b, off + j, none⟩ = false := by
  obtain ⟨v, h1, h2, _⟩ := h j hj
  exact ⟨v, h1, h2⟩
theorem Fill.any0 {w : World} {b n i : Nat} {f : Nat → Value} (h : Fill w b 0 n i f) (j : Nat) (hj : j < n) : ∃ v, w.cell? ⟨b, j, none⟩ = some v ∧ w.frozen? ⟨b, j, none⟩ = false := by
  have := h.any j hj
  rwa [Nat.zero_add] at this
theorem Fill.put {w : World} {b off n : Nat} {f : Nat → Value} (h : Fill w b off n 0 f) (p : Addr) (u : Value) : Fill (w.setCell p u) b off n 0 f := by
  intro j hj
  obtain ⟨v, h1, h2, _⟩ := h j hj
  by_cases e : p = ⟨b, off + j, none⟩
  · subst e
    exact ⟨u, World.cell?_setCell_same _ _ _ h1, by rw [World.frozen?_setCell]; exact h2, fun hlt => absurd hlt (by omega)⟩
  · exact ⟨v, by rw [World.cell?_setCell_other _ _ _ _ e]; exact h1, by rw [World.frozen?_setCell]; exact h2, fun hlt => absurd hlt (by omega)⟩
/-! Integers: the older notions. -/
abbrev icell (k : IntKind) (x : Int) (_ : Nat) : Value := .int k x
theorem flat_int (k : IntKind) (zs : List Int) (j : Nat) : flat 1 (icell k) zs j = .int k (zs.getD j 0) := by
  unfold flat
  rw [Nat.div_one]
  rfl
theorem hasR_int {k : IntKind} {w : World} {B n : Nat} {a : Option Addr} {zs : List Int} : HasR 1 (icell k) w B a n zs ↔ Has k w B a n zs := by
  simp only [HasR, Has, flat_int, Nat.mul_one]
theorem OwnR.int {k : IntKind} {w : World} {lo hi n : Nat} {a : Option Addr} {zs : List Int} (h : OwnR 1 (icell k) w lo hi a n zs) (hh : hi ≤ w.heap.size) : Own k w lo a n zs :=
  ⟨h.1, fun hn => by
    obtain ⟨b, off, e, hl, hb, hc⟩ := h.2 hn
    refine ⟨b, off, e, hl, by omega, fun i hi => ?_⟩
    rw [← flat_int]
    exact hc i (by omega)⟩
theorem Own.toR {k : IntKind} {w : World} {lo hi n : Nat} {a : Option Addr} {zs : List Int} (h : Own k w lo a n zs) (hh : w.heap.size ≤ hi) : OwnR 1 (icell k) w lo hi a n zs :=
  ⟨h.1, fun hn => by
    obtain ⟨b, off, e, hl, hb, hc⟩ := h.2 hn
    refine ⟨b, off, e, hl, by omega, fun j hj => ?_⟩
    rw [flat_int]
    exact hc j (by omega)⟩
/-- A row written by a call that is told by grownBy. -/
theorem Own.toR_far {k : IntKind} {w w' : World} {lo hi n : Nat} {a : Option Addr} {zs zs' : List Int} (h0 : OwnR 1 (icell k) w lo hi a n zs) (h : Own k w' lo a n zs') : OwnR 1 (icell k) w' lo hi a n zs' :=
  ⟨h.1, fun hn => by
    obtain ⟨b, off, e, hl, hb, hc⟩ := h.2 hn
    obtain ⟨b', off', e', hl', hb', hc'⟩ := h0.2 hn
    have ee : b' = b := by rw [e] at e'; injection e' with e'; injection e' with e1; exact e1.symm
    refine ⟨b, off, e, hl, by omega, fun j hj => ?_⟩
    rw [flat_int]
    exact hc j (by omega)⟩
/-- Old facts on a cell behind a store elsewhere. -/
theorem cell_set {w : World} {b o : Nat} {v : Value} (h : w.cell? ⟨b, o, none⟩ = some v) (p : Addr) (u : Value) (hp : p.block ≠ b ∨ p.off ≠ o) : (w.setCell p u).cell? ⟨b, o, none⟩ = some v := by
  rw [World.cell?_setCell_other _ _ _ _ (fun e => by subst e; simp at hp)]; exact h
theorem frozen_set {w : World} {b o : Nat} (h : w.frozen? ⟨b, o, none⟩ = false) (p : Addr) (u : Value) : (w.setCell p u).frozen? ⟨b, o, none⟩ = false := by
  rw [World.frozen?_setCell]; exact h
theorem cell_kept {lo hi : Nat} {w w' : World} {b o : Nat} {v : Value} (h : w.cell? ⟨b, o, none⟩ = some v) (hm : Mk lo hi w w') (hr : b < lo ∨ hi ≤ b) : w'.cell? ⟨b, o, none⟩ = some v := hm.cellAtR h hr
theorem frozen_kept {lo hi : Nat} {w w' : World} {b o : Nat} (h : w.frozen? ⟨b, o, none⟩ = false) (hm : Mk lo hi w w') (hb : b < w.heap.size) (hr : b < lo ∨ hi ≤ b) : w'.frozen? ⟨b, o, none⟩ = false := (hm.frozen hb hr).trans h
end Go.Proofs.Ytoicmmandniagaa
