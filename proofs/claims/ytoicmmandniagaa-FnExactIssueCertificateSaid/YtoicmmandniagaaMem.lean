
/- Memory that a call makes: worlds that part in one block alone, rows of integers, rows that are being filled. -/
import Derived.Test.YtoicmmandniagaaBase
import Derived.Laws.OwnMore
import Derived.Deep.Draws
import Derived.Lib.Hide
namespace Go.Proofs.Ytoicmmandniagaa
open Go Go.RowKit
set_option linter.unusedVariables false

/-- A slice of n integers reads as zs, in a block below B. -/
def Has (k : IntKind) (w : World) (B : Nat) (a : Option Addr) (n : Nat) (zs : List Int) : Prop :=
  zs.length = n ∧ (0 < n → ∃ b off, a = some ⟨b, off, none⟩ ∧ b < B ∧ ∀ i, i < n → w.cell? ⟨b, off + i, none⟩ = some (.int k (zs.getD i 0)))

/-- The same of a row that lies at or behind lo, and that may be written. -/
def Own (k : IntKind) (w : World) (lo : Nat) (a : Option Addr) (n : Nat) (zs : List Int) : Prop :=
  zs.length = n ∧ (0 < n → ∃ b off, a = some ⟨b, off, none⟩ ∧ lo ≤ b ∧ b < w.heap.size ∧
    ∀ i, i < n → w.cell? ⟨b, off + i, none⟩ = some (.int k (zs.getD i 0)) ∧ w.frozen? ⟨b, off + i, none⟩ = false)

/-- The block that a slice of n elements lies in, if it has any. -/
def rowOf (a : Option Addr) (n : Nat) : Option Nat := if n = 0 then none else a.map (·.block)

section
variable {k : IntKind} {w w' : World} {B lo n : Nat} {a : Option Addr} {zs : List Int}
theorem Has.at_ (h : Has k w B a n zs) {i : Nat} (hi : i < n) : ∃ b off z, a = some ⟨b, off, none⟩ ∧ b < B ∧ Hid (z = zs.getD i 0) ∧ w.cell? ⟨b, off + i, none⟩ = some (.int k z) := by
  obtain ⟨b, off, e, hb, hc⟩ := h.2 (by omega)
  exact ⟨b, off, _, e, hb, rfl, hc i hi⟩
theorem Has.keep (h : Has k w B a n zs) (hk : ∀ p : Addr, p.block < B → w'.cell? p = w.cell? p) : Has k w' B a n zs :=
  ⟨h.1, fun hn => by
    obtain ⟨b, off, e, hb, hc⟩ := h.2 hn
    exact ⟨b, off, e, hb, fun i hi => (hk _ hb).trans (hc i hi)⟩⟩
theorem Has.below (h : Has k w B a n zs) (hb : Below B w w') : Has k w' B a n zs := h.keep fun _ hp => hb.cell hp
theorem Has.mono {B' : Nat} (h : Has k w B a n zs) (hB : B ≤ B') : Has k w B' a n zs :=
  ⟨h.1, fun hn => by
    obtain ⟨b, off, e, hb, hc⟩ := h.2 hn
    exact ⟨b, off, e, by omega, hc⟩⟩
theorem Has.grown (h : Has k w B a n zs) {row : Option Nat} (hg : w.grownBy w' row) (hB : B ≤ w.heap.size) (hr : ∀ g, row = some g → B ≤ g) : Has k w' B a n zs :=
  h.keep fun p hp => World.cell?_of_block (w := w) (hg.block p.block (by omega) (fun e => by have := hr _ e.symm; omega))
/-- Behind draws. -/
theorem Has.drewN (h : Has k w w.heap.size a n zs) (m : Nat) : Has k (w.drewN m) (w.drewN m).heap.size a n zs := h
theorem Has.drewB (h : Has k w B a n zs) (m : Nat) : Has k (w.drewN m) B a n zs := h
theorem Own.drewN (h : Own k w lo a n zs) (m : Nat) : Own k (w.drewN m) lo a n zs := h
/-- To the world behind a call that makes memory alone. -/
theorem Has.next (h : Has k w w.heap.size a n zs) (hb : Below w.heap.size w w') : Has k w' w'.heap.size a n zs := (h.below hb).mono hb.size
theorem Own.has (h : Own k w lo a n zs) : Has k w w.heap.size a n zs :=
  ⟨h.1, fun hn => by
    obtain ⟨b, off, e, _, hb, hc⟩ := h.2 hn
    exact ⟨b, off, e, hb, fun i hi => (hc i hi).1⟩⟩
theorem Own.keep (h : Own k w lo a n zs) (hs : w.heap.size ≤ w'.heap.size) (hk : ∀ p, lo ≤ p → p < w.heap.size → w'.heap[p]? = w.heap[p]?) : Own k w' lo a n zs :=
  ⟨h.1, fun hn => by
    obtain ⟨b, off, e, hl, hb, hc⟩ := h.2 hn
    exact ⟨b, off, e, hl, by omega, fun i hi => ⟨(World.cell?_of_block (w := w) (hk b hl hb)).trans (hc i hi).1, (World.frozen?_of_block (w := w) (hk b hl hb)).trans (hc i hi).2⟩⟩⟩
theorem Own.below (h : Own k w lo a n zs) (hb : Below w.heap.size w w') : Own k w' lo a n zs := h.keep hb.size fun p _ hp => hb.block p hp
theorem Own.grown (h : Own k w lo a n zs) {row : Option Nat} (hg : w.grownBy w' row) (hr : ∀ g, row = some g → g < lo) : Own k w' lo a n zs :=
  h.keep hg.size fun p hl hp => hg.block p hp (fun e => by have := hr _ e.symm; omega)
theorem Own.low {lo' : Nat} (h : Own k w lo a n zs) (hl : lo' ≤ lo) : Own k w lo' a n zs :=
  ⟨h.1, fun hn => by
    obtain ⟨b, off, e, hl', hb, hc⟩ := h.2 hn
    exact ⟨b, off, e, by omega, hb, hc⟩⟩
theorem Own.row (h : Own k w lo a n zs) : ∀ g, rowOf a n = some g → lo ≤ g := by
  intro g hg
  unfold rowOf at hg
  split at hg
  · cases hg
  · obtain ⟨b, off, rfl, hl, _⟩ := h.2 (by omega)
    simp at hg
    omega
theorem Has.row (h : Has k w B a n zs) : ∀ g, rowOf a n = some g → g < B := by
  intro g hg
  unfold rowOf at hg
  split at hg
  · cases hg
  · obtain ⟨b, off, rfl, hl, _⟩ := h.2 (by omega)
    simp at hg
    omega
theorem Own.none_ (w : World) (lo : Nat) (a : Option Addr) : Own k w lo a 0 [] := ⟨rfl, fun h => absurd h (by omega)⟩
theorem Has.none_ (w : World) (B : Nat) (a : Option Addr) : Has k w B a 0 [] := ⟨rfl, fun h => absurd h (by omega)⟩
end

theorem getD_take (zs : List Int) (n i : Nat) (h : i < n) : (zs.take n).getD i 0 = zs.getD i 0 := by
  simp [List.getD_eq_getElem?_getD, h]

theorem IsRow.has {k : IntKind} {w : World} {a : Option Addr} {len cap : Nat} {zs : List Int} (h : IsRow k w a len cap zs) : Has k w w.heap.size a len (zs.take len) := by
  rcases h with ⟨rfl, rfl, rfl, rfl⟩ | ⟨x, rfl, hl, hm, hz, hc, hw⟩
  · exact ⟨rfl, fun h => absurd h (by omega)⟩
  · refine ⟨by simp; omega, fun hn => ?_⟩
    obtain ⟨b, off, spot⟩ := x
    have c0 := hc 0 (by omega)
    obtain rfl : spot = none := by simpa [Addr.add] using World.cell?_spot c0
    rw [add_plain] at c0
    have hlt : b < w.heap.size := World.block_lt_of_cell? w ⟨b, off + 0, none⟩ c0
    refine ⟨b, off, rfl, hlt, fun i hi => ?_⟩
    have := hc i (by omega)
    rw [add_plain] at this
    rw [getD_take _ _ _ hi]
    exact this
theorem IsRow.fits {k : IntKind} {w : World} {a : Option Addr} {len cap : Nat} {zs : List Int} (h : IsRow k w a len cap zs) : ∀ z ∈ zs.take len, (Lit.int k z).wf = true := by
  rcases h with ⟨rfl, rfl, rfl, rfl⟩ | ⟨x, rfl, hl, hm, hz, hc, hw⟩
  · simp
  · exact fun z hz => hw z (List.mem_of_mem_take hz)

/-- A row of n cells, none frozen, whose first i read as f says. -/
def Fill (w : World) (b off n i : Nat) (f : Nat → Value) : Prop :=
  ∀ j, j < n → ∃ v, w.cell? ⟨b, off + j, none⟩ = some v ∧ w.frozen? ⟨b, off + j, none⟩ = false ∧ (j < i → v = f j)
section
variable {w w' : World} {b off n i : Nat} {f : Nat → Value}
theorem Fill.at_ (h : Fill w b off n i f) (hi : i < n) : ∃ v, w.cell? ⟨b, off + i, none⟩ = some v ∧ w.frozen? ⟨b, off + i, none⟩ = false := by
  obtain ⟨v, h1, h2, _⟩ := h i hi
  exact ⟨v, h1, h2⟩
theorem Fill.set_ (h : Fill w b off n i f) (hi : i < n) {u : Value} (hu : u = f i) : Fill (w.setCell ⟨b, off + i, none⟩ u) b off n (i + 1) f := by
  intro j hj
  obtain ⟨v, h1, h2, h3⟩ := h j hj
  by_cases e : j = i
  · subst e
    exact ⟨u, World.cell?_setCell_same _ _ _ h1, by rw [World.frozen?_setCell]; exact h2, fun _ => hu⟩
  · refine ⟨v, ?_, by rw [World.frozen?_setCell]; exact h2, fun hlt => h3 (by omega)⟩
    rw [World.cell?_setCell_other _ _ _ _ (fun h => by simp only [Addr.mk.injEq] at h; omega)]
    exact h1
theorem Fill.set0 (h : Fill w b 0 n i f) (hi : i < n) {u : Value} (hu : u = f i) : Fill (w.setCell ⟨b, i, none⟩ u) b 0 n (i + 1) f := by
  have := h.set_ hi hu
  rwa [Nat.zero_add] at this
theorem Fill.at0 (h : Fill w b 0 n i f) (hi : i < n) : ∃ v, w.cell? ⟨b, i, none⟩ = some v ∧ w.frozen? ⟨b, i, none⟩ = false := by
  have := h.at_ hi
  rwa [Nat.zero_add] at this
theorem Fill.block (h : Fill w b off n i f) (hb : w'.heap[b]? = w.heap[b]?) : Fill w' b off n i f := by
  intro j hj
  obtain ⟨v, h1, h2, h3⟩ := h j hj
  exact ⟨v, (World.cell?_of_block (w := w) hb).trans h1, (World.frozen?_of_block (w := w) hb).trans h2, h3⟩
theorem Fill.all (h : Fill w b off n n f) : ∀ j, j < n → w.cell? ⟨b, off + j, none⟩ = some (f j) ∧ w.frozen? ⟨b, off + j, none⟩ = false := by
  intro j hj
  obtain ⟨v, h1, h2, h3⟩ := h j hj
  rw [← h3 hj]
  exact ⟨h1, h2⟩
theorem Fill.own {k : IntKind} {lo : Nat} {zs : List Int} (h : Fill w b off n n f) (hz : zs.length = n) (hf : ∀ j, j < n → f j = .int k (zs.getD j 0)) (hl : lo ≤ b) : Own k w lo (some ⟨b, off, none⟩) n zs :=
  ⟨hz, fun hn => ⟨b, off, rfl, hl, World.block_lt_of_cell? w ⟨b, off + 0, none⟩ (h.all 0 hn).1, fun j hj => by rw [← hf j hj]; exact h.all j hj⟩⟩
end
theorem Own.fill {k : IntKind} {w : World} {lo n : Nat} {b off : Nat} {zs : List Int} (h : Own k w lo (some ⟨b, off, none⟩) n zs) (f : Nat → Value) : Fill w b off n 0 f := by
  intro j hj
  obtain ⟨b', off', e, _, _, hc⟩ := h.2 (by omega)
  simp only [Option.some.injEq, Addr.mk.injEq, and_true] at e
  obtain ⟨rfl, rfl⟩ := e
  exact ⟨_, (hc j hj).1, (hc j hj).2, fun h => absurd h (by omega)⟩
theorem ownsRow_fill {w : World} {base g n cap : Nat} {e : TypeId} {xs : List Value} (h : w.ownsRow base e 1 (.slice (some ⟨g, 0, none⟩) n cap) n xs) (f : Nat → Value) : Fill w g 0 n 0 f := by
  intro j hj
  have hl : j < xs.length := by have := h.1; omega
  refine ⟨xs[j], ?_, ?_, fun h => absurd h (by omega)⟩
  · rw [Nat.zero_add, h.cellAt j (by omega)]; exact List.getElem?_eq_getElem hl
  · rw [Nat.zero_add]; exact h.frozenAt j
/-- Two rows lie apart. -/
def Dj (a : Option Addr) (n : Nat) (a' : Option Addr) (n' : Nat) : Prop := ∀ g, rowOf a n = some g → rowOf a' n' = some g → False
theorem Dj.symm {a a' : Option Addr} {n n' : Nat} (h : Dj a n a' n') : Dj a' n' a n := fun g h1 h2 => h g h2 h1
theorem dj_of {k k' : IntKind} {w w' : World} {B lo : Nat} {a a' : Option Addr} {n n' : Nat} {zs zs' : List Int} (h : Has k w B a n zs) (h' : Own k' w' lo a' n' zs') (hl : B ≤ lo) : Dj a n a' n' := by
  intro g h1 h2
  have := h.row g h1
  have := h'.row g h2
  omega
theorem Own.far {k : IntKind} {w w' : World} {lo : Nat} {a a' : Option Addr} {n n' : Nat} {zs : List Int} (h : Own k w lo a n zs) (hg : w.grownBy w' (rowOf a' n')) (hd : Dj a n a' n') : Own k w' lo a n zs :=
  ⟨h.1, fun hn => by
    obtain ⟨b, off, rfl, hl, hb, hc⟩ := h.2 hn
    have hne : some b ≠ rowOf a' n' := fun e => hd b (by simp [rowOf]; omega) e.symm
    have hk := hg.block b hb hne
    have hs := hg.size
    exact ⟨b, off, rfl, hl, by omega, fun i hi => ⟨(World.cell?_of_block (w := w) hk).trans (hc i hi).1, (World.frozen?_of_block (w := w) hk).trans (hc i hi).2⟩⟩⟩
theorem Has.far {k k' : IntKind} {w w' : World} {B lo : Nat} {a a' : Option Addr} {n n' : Nat} {zs zs' : List Int} (h : Has k w B a n zs) (ho : Own k' w lo a' n' zs') (hlo : B ≤ lo) (hB : B ≤ w.heap.size) (hg : w.grownBy w' (rowOf a' n')) : Has k w' B a n zs :=
  h.grown hg hB (fun g e => Nat.le_trans hlo (ho.row g e))
theorem Below.far {k' : IntKind} {w0 w w' : World} {B lo : Nat} {a' : Option Addr} {n' : Nat} {zs' : List Int} (h : Below B w0 w) (ho : Own k' w lo a' n' zs') (hlo : B ≤ lo) (hB : B ≤ w.heap.size) (hg : w.grownBy w' (rowOf a' n')) : Below B w0 w' :=
  h.grown hg hB (fun g e => Nat.le_trans hlo (ho.row g e))
/-- A call hands back a new row, and changes nothing that was there. -/
def OutR (k : IntKind) (w : World) (R : List Int) (e : Ending) (w' : World) : Prop :=
  ∃ A N c, e = .returned (.slice A N c) ∧ (A = none → c = 0) ∧ Own k w' w.heap.size A N R ∧ Below w.heap.size w w'
/-- The marks that follow k0. -/
def marks (g : Int → Int) (k0 : Int) (n : Nat) : List Int := (List.range n).map fun j => g (k0 + (j : Nat))
theorem marks_length (g : Int → Int) (k0 : Int) (n : Nat) : (marks g k0 n).length = n := by simp [marks]
theorem marks_getD (g : Int → Int) (k0 : Int) (n j : Nat) (h : j < n) : (marks g k0 n).getD j 0 = g (k0 + (j : Nat)) := by
  simp [marks, List.getD_eq_getElem?_getD, h]
theorem grownBy_setCell (w : World) (p : Addr) (u : Value) : w.grownBy (w.setCell p u) (some p.block) :=
  ⟨rfl, rfl, rfl, by simp [World.setCell], fun i _ hne => Below.heap_setCell w p u i (fun e => hne (by rw [e]))⟩
theorem grownBy_trans {a b c : World} {row : Option Nat} (h : a.grownBy b row) (k : b.grownBy c row) : a.grownBy c row :=
  ⟨k.os.trans h.os, k.tape.trans h.tape, k.output.trans h.output, Nat.le_trans h.size k.size, fun i hi hne => (k.block i (Nat.lt_of_lt_of_le hi h.size) hne).trans (h.block i hi hne)⟩
theorem Below.drewN' {B : Nat} {a w : World} (h : Below B a w) (m : Nat) : Below B a (w.drewN m) := ⟨h.os, h.tape, h.output, h.size, h.block⟩
theorem grownBy_refl_none (w : World) (row : Option Nat) : w.grownBy w row := World.grownBy.refl w row
end Go.Proofs.Ytoicmmandniagaa
