
/- Small facts on integers that fit their kind. -/
import Derived.WalkKit
import Derived.Below
import Derived.Laws.OwnMore
import Derived.Deep.Draws
import Derived.Lib.Hide
import Derived.Test.YtdlafigjkefllaaRows
import Derived.OwnWalk
namespace Go.Proofs.Ytdlafigjkefllaa
open Go Go.RowKit
theorem i64_of {a : Int} (h : (Lit.int .i64 a).wf = true) : -9223372036854775808 ≤ a ∧ a ≤ 9223372036854775807 := by
  simp only [Lit.wf, Bool.and_eq_true, decide_eq_true_eq] at h
  have e1 : IntKind.i64.min = -9223372036854775808 := by decide
  have e2 : IntKind.i64.max = 9223372036854775807 := by decide
  rw [e1, e2] at h
  exact h
theorem u8_of {a : Int} (h : (Lit.int .u8 a).wf = true) : 0 ≤ a ∧ a ≤ 255 := by
  simp only [Lit.wf, Bool.and_eq_true, decide_eq_true_eq] at h
  have e1 : IntKind.u8.min = 0 := by decide
  have e2 : IntKind.u8.max = 255 := by decide
  rw [e1, e2] at h
  exact h

/-- A mask of the last i bits is the remainder, also of a negative number. -/
theorem and_mask (i : Nat) (hi : i ≤ 62) (x : Int) : bits .and .i64 x ((2 ^ i - 1 : Nat) : Int) = x % ((2 ^ i : Nat) : Int) := by
  have hp : 2 ^ i ≤ 2 ^ 62 := Nat.pow_le_pow_right (by decide) hi
  have h1 : 1 ≤ 2 ^ i := Nat.one_le_two_pow
  simp only [bits, BitVec.toNat_and, BitVec.ofInt_natCast, BitVec.toNat_ofNat, BitVec.toNat_ofInt]
  have e : (2 ^ i - 1) % 2 ^ IntKind.i64.bits = 2 ^ i - 1 := Nat.mod_eq_of_lt (by have : IntKind.i64.bits = 64 := rfl; rw [this]; omega)
  rw [e, Nat.and_two_pow_sub_one_eq_mod]
  have hb : (2 : Nat) ^ IntKind.i64.bits = 18446744073709551616 := by decide
  rw [hb]
  have hd : (18446744073709551616 : Nat) = 2 ^ i * 2 ^ (64 - i) := by rw [← Nat.pow_add, show i + (64 - i) = 64 by omega]
  have h2 : ((x % ((18446744073709551616 : Nat) : Int)).toNat % 2 ^ i : Nat) = x % ((2 ^ i : Nat) : Int) := by
    have h0 : 0 ≤ x % ((18446744073709551616 : Nat) : Int) := Int.emod_nonneg _ (by decide)
    rw [Int.natCast_emod, Int.toNat_of_nonneg h0, hd, Int.natCast_mul]
    exact Int.emod_emod_of_dvd _ (Int.dvd_mul_right _ _)
  rw [h2]
  have h3 : 0 ≤ x % ((2 ^ i : Nat) : Int) := Int.emod_nonneg _ (by omega)
  have h4 : x % ((2 ^ i : Nat) : Int) < ((2 ^ i : Nat) : Int) := Int.emod_lt_of_pos _ (by omega)
  generalize x % ((2 ^ i : Nat) : Int) = y at h3 h4 ⊢
  have h5 : y < 9223372036854775808 := by omega
  rw [IntKind.wrap_i64]
  omega
theorem and255 (x : Int) : bits .and .i64 x 255 = x % 256 := and_mask 8 (by decide) x
theorem and255_range (x : Int) : 0 ≤ bits .and .i64 x 255 ∧ bits .and .i64 x 255 ≤ 255 := by rw [and255]; omega

theorem add_plain (b off i : Nat) : (⟨b, off, none⟩ : Addr).add i = ⟨b, off + i, none⟩ := by unfold Addr.add; split <;> simp_all

/-- What a walk is told of a slice of integers that came in: it is nil, or it leads to a row of 'cap' cells, the numbers 'zs', each fitting its kind. -/
def IsRow (k : IntKind) (w : World) (a : Option Addr) (len cap : Nat) (zs : List Int) : Prop :=
  (a = none ∧ len = 0 ∧ cap = 0 ∧ zs = []) ∨
  ∃ x, a = some x ∧ len ≤ cap ∧ cap ≤ maxLen ∧ zs.length = cap ∧ (∀ i, i < zs.length → w.cell? (x.add i) = some (.int k (zs.getD i 0))) ∧ ∀ n ∈ zs, (Lit.int k n).wf = true
theorem Below.seq {a b c : World} (h : Below a.heap.size a b) (k : Below b.heap.size b c) : Below a.heap.size a c := h.trans (k.mono h.size)
end Go.Proofs.Ytdlafigjkefllaa
namespace Go.Proofs.Ytdlafigjkefllaa
open Go Go.RowKit
set_option linter.unusedVariables false

/-- A slice of n integers reads as zs, in a block below B. -/
def Has (k : IntKind) (w : World) (B : Nat) (a : Option Addr) (n : Nat) (zs : List Int) : Prop :=
  zs.length = n ∧ (0 < n → ∃ b off, a = some ⟨b, off, none⟩ ∧ b < B ∧ ∀ i, i < n → w.cell? ⟨b, off + i, none⟩ = some (.int k (zs.getD i 0)))

/-- The same of a row that lies at or behind lo, and that may be written. -/
def Own (k : IntKind) (w : World) (lo : Nat) (a : Option Addr) (n : Nat) (zs : List Int) : Prop :=
  zs.length = n ∧ (0 < n → ∃ b off, a = some ⟨b, off, none⟩ ∧ lo ≤ b ∧ b < w.heap.size ∧
    ∀ i, i < n → w.cell? ⟨b, off + i, none⟩ = some (.int k (zs.getD i 0)) ∧ w.frozen? ⟨b, off + i, none⟩ = false)

/-- The block that a slice of n elements lies in, if it has any. -/
def rowOf (a : Option Addr) (n : Nat) : Option Nat := if n = 0 then none else a.map (·.block)

section
variable {k : IntKind} {w w' : World} {B lo n : Nat} {a : Option Addr} {zs : List Int}
theorem Has.at_ (h : Has k w B a n zs) {i : Nat} (hi : i < n) : ∃ b off z, a = some ⟨b, off, none⟩ ∧ b < B ∧ Hid (z = zs.getD i 0) ∧ w.cell? ⟨b, off + i, none⟩ = some (.int k z) := by
  obtain ⟨b, off, e, hb, hc⟩ := h.2 (by omega)
  exact ⟨b, off, _, e, hb, rfl, hc i hi⟩
theorem Has.keep (h : Has k w B a n zs) (hk : ∀ p : Addr, p.block < B → w'.cell? p = w.cell? p) : Has k w' B a n zs :=
  ⟨h.1, fun hn => by
    obtain ⟨b, off, e, hb, hc⟩ := h.2 hn
    exact ⟨b, off, e, hb, fun i hi => (hk _ hb).trans (hc i hi)⟩⟩
theorem Has.below (h : Has k w B a n zs) (hb : Below B w w') : Has k w' B a n zs := h.keep fun _ hp => hb.cell hp
theorem Has.mono {B' : Nat} (h : Has k w B a n zs) (hB : B ≤ B') : Has k w B' a n zs :=
  ⟨h.1, fun hn => by
    obtain ⟨b, off, e, hb, hc⟩ := h.2 hn
    exact ⟨b, off, e, by omega, hc⟩⟩
theorem Has.grown (h : Has k w B a n zs) {row : Option Nat} (hg : w.grownBy w' row) (hB : B ≤ w.heap.size) (hr : ∀ g, row = some g → B ≤ g) : Has k w' B a n zs :=
  h.keep fun p hp => World.cell?_of_block (w := w) (hg.block p.block (by omega) (fun e => by have := hr _ e.symm; omega))
/-- Behind draws. -/
theorem Has.drewN (h : Has k w w.heap.size a n zs) (m : Nat) : Has k (w.drewN m) (w.drewN m).heap.size a n zs := h
theorem Has.drewB (h : Has k w B a n zs) (m : Nat) : Has k (w.drewN m) B a n zs := h
theorem Own.drewN (h : Own k w lo a n zs) (m : Nat) : Own k (w.drewN m) lo a n zs := h
/-- To the world behind a call that makes memory alone. -/
theorem Has.next (h : Has k w w.heap.size a n zs) (hb : Below w.heap.size w w') : Has k w' w'.heap.size a n zs := (h.below hb).mono hb.size
theorem Own.has (h : Own k w lo a n zs) : Has k w w.heap.size a n zs :=
  ⟨h.1, fun hn => by
    obtain ⟨b, off, e, _, hb, hc⟩ := h.2 hn
    exact ⟨b, off, e, hb, fun i hi => (hc i hi).1⟩⟩
theorem Own.keep (h : Own k w lo a n zs) (hs : w.heap.size ≤ w'.heap.size) (hk : ∀ p, lo ≤ p → p < w.heap.size → w'.heap[p]? = w.heap[p]?) : Own k w' lo a n zs :=
  ⟨h.1, fun hn => by
    obtain ⟨b, off, e, hl, hb, hc⟩ := h.2 hn
    exact ⟨b, off, e, hl, by omega, fun i hi => ⟨(World.cell?_of_block (w := w) (hk b hl hb)).trans (hc i hi).1, (World.frozen?_of_block (w := w) (hk b hl hb)).trans (hc i hi).2⟩⟩⟩
theorem Own.below (h : Own k w lo a n zs) (hb : Below w.heap.size w w') : Own k w' lo a n zs := h.keep hb.size fun p _ hp => hb.block p hp
theorem Own.grown (h : Own k w lo a n zs) {row : Option Nat} (hg : w.grownBy w' row) (hr : ∀ g, row = some g → g < lo) : Own k w' lo a n zs :=
  h.keep hg.size fun p hl hp => hg.block p hp (fun e => by have := hr _ e.symm; omega)
theorem Own.low {lo' : Nat} (h : Own k w lo a n zs) (hl : lo' ≤ lo) : Own k w lo' a n zs :=
  ⟨h.1, fun hn => by
    obtain ⟨b, off, e, hl', hb, hc⟩ := h.2 hn
    exact ⟨b, off, e, by omega, hb, hc⟩⟩
theorem Own.row (h : Own k w lo a n zs) : ∀ g, rowOf a n = some g → lo ≤ g := by
  intro g hg
  unfold rowOf at hg
  split at hg
  · cases hg
  · obtain ⟨b, off, rfl, hl, _⟩ := h.2 (by omega)
    simp at hg
    omega
theorem Has.row (h : Has k w B a n zs) : ∀ g, rowOf a n = some g → g < B := by
  intro g hg
  unfold rowOf at hg
  split at hg
  · cases hg
  · obtain ⟨b, off, rfl, hl, _⟩ := h.2 (by omega)
    simp at hg
    omega
theorem Own.none_ (w : World) (lo : Nat) (a : Option Addr) : Own k w lo a 0 [] := ⟨rfl, fun h => absurd h (by omega)⟩
theorem Has.none_ (w : World) (B : Nat) (a : Option Addr) : Has k w B a 0 [] := ⟨rfl, fun h => absurd h (by omega)⟩
end

theorem getD_take (zs : List Int) (n i : Nat) (h : i < n) : (zs.take n).getD i 0 = zs.getD i 0 := by
  simp [List.getD_eq_getElem?_getD, h]

theorem IsRow.has {k : IntKind} {w : World} {a : Option Addr} {len cap : Nat} {zs : List Int} (h : IsRow k w a len cap zs) : Has k w w.heap.size a len (zs.take len) := by
  rcases h with ⟨rfl, rfl, rfl, rfl⟩ | ⟨x, rfl, hl, hm, hz, hc, hw⟩
  · exact ⟨rfl, fun h => absurd h (by omega)⟩
  · refine ⟨by simp; omega, fun hn => ?_⟩
    obtain ⟨b, off, spot⟩ := x
    have c0 := hc 0 (by omega)
    obtain rfl : spot = none := by simpa [Addr.add] using World.cell?_spot c0
    rw [add_plain] at c0
    have hlt : b < w.heap.size := World.block_lt_of_cell? w ⟨b, off + 0, none⟩ c0
    refine ⟨b, off, rfl, hlt, fun i hi => ?_⟩
    have := hc i (by omega)
    rw [add_plain] at this
    rw [getD_take _ _ _ hi]
    exact this
theorem IsRow.fits {k : IntKind} {w : World} {a : Option Addr} {len cap : Nat} {zs : List Int} (h : IsRow k w a len cap zs) : ∀ z ∈ zs.take len, (Lit.int k z).wf = true := by
  rcases h with ⟨rfl, rfl, rfl, rfl⟩ | ⟨x, rfl, hl, hm, hz, hc, hw⟩
  · simp
  · exact fun z hz => hw z (List.mem_of_mem_take hz)

/-- A row of n cells, none frozen, whose first i read as f says. -/
def Fill (w : World) (b off n i : Nat) (f : Nat → Value) : Prop :=
  ∀ j, j < n → ∃ v, w.cell? ⟨b, off + j, none⟩ = some v ∧ w.frozen? ⟨b, off + j, none⟩ = false ∧ (j < i → v = f j)
section
variable {w w' : World} {b off n i : Nat} {f : Nat → Value}
theorem Fill.at_ (h : Fill w b off n i f) (hi : i < n) : ∃ v, w.cell? ⟨b, off + i, none⟩ = some v ∧ w.frozen? ⟨b, off + i, none⟩ = false := by
  obtain ⟨v, h1, h2, _⟩ := h i hi
  exact ⟨v, h1, h2⟩
theorem Fill.set_ (h : Fill w b off n i f) (hi : i < n) {u : Value} (hu : u = f i) : Fill (w.setCell ⟨b, off + i, none⟩ u) b off n (i + 1) f := by
  intro j hj
  obtain ⟨v, h1, h2, h3⟩ := h j hj
  by_cases e : j = i
  · subst e
    exact ⟨u, World.cell?_setCell_same _ _ _ h1, by rw [World.frozen?_setCell]; exact h2, fun _ => hu⟩
  · refine ⟨v, ?_, by rw [World.frozen?_setCell]; exact h2, fun hlt => h3 (by omega)⟩
    rw [World.cell?_setCell_other _ _ _ _ (fun h => by simp only [Addr.mk.injEq] at h; omega)]
    exact h1
theorem Fill.set0 (h : Fill w b 0 n i f) (hi : i < n) {u : Value} (hu : u = f i) : Fill (w.setCell ⟨b, i, none⟩ u) b 0 n (i + 1) f := by
  have := h.set_ hi hu
  rwa [Nat.zero_add] at this
theorem Fill.at0 (h : Fill w b 0 n i f) (hi : i < n) : ∃ v, w.cell? ⟨b, i, none⟩ = some v ∧ w.frozen? ⟨b, i, none⟩ = false := by
  have := h.at_ hi
  rwa [Nat.zero_add] at this
theorem Fill.block (h : Fill w b off n i f) (hb : w'.heap[b]? = w.heap[b]?) : Fill w' b off n i f := by
  intro j hj
  obtain ⟨v, h1, h2, h3⟩ := h j hj
  exact ⟨v, (World.cell?_of_block (w := w) hb).trans h1, (World.frozen?_of_block (w := w) hb).trans h2, h3⟩
theorem Fill.all (h : Fill w b off n n f) : ∀ j, j < n → w.cell? ⟨b, off + j, none⟩ = some (f j) ∧ w.frozen? ⟨b, off + j, none⟩ = false := by
  intro j hj
  obtain ⟨v, h1, h2, h3⟩ := h j hj
  rw [← h3 hj]
  exact ⟨h1, h2⟩
theorem Fill.own {k : IntKind} {lo : Nat} {zs : List Int} (h : Fill w b off n n f) (hz : zs.length = n) (hf : ∀ j, j < n → f j = .int k (zs.getD j 0)) (hl : lo ≤ b) : Own k w lo (some ⟨b, off, none⟩) n zs :=
  ⟨hz, fun hn => ⟨b, off, rfl, hl, World.block_lt_of_cell? w ⟨b, off + 0, none⟩ (h.all 0 hn).1, fun j hj => by rw [← hf j hj]; exact h.all j hj⟩⟩
end
theorem Own.fill {k : IntKind} {w : World} {lo n : Nat} {b off : Nat} {zs : List Int} (h : Own k w lo (some ⟨b, off, none⟩) n zs) (f : Nat → Value) : Fill w b off n 0 f := by
  intro j hj
  obtain ⟨b', off', e, _, _, hc⟩ := h.2 (by omega)
  simp only [Option.some.injEq, Addr.mk.injEq, and_true] at e
  obtain ⟨rfl, rfl⟩ := e
  exact ⟨_, (hc j hj).1, (hc j hj).2, fun h => absurd h (by omega)⟩
theorem ownsRow_fill {w : World} {base g n cap : Nat} {e : TypeId} {xs : List Value} (h : w.ownsRow base e 1 (.slice (some ⟨g, 0, none⟩) n cap) n xs) (f : Nat → Value) : Fill w g 0 n 0 f := by
  intro j hj
  have hl : j < xs.length := by have := h.1; omega
  refine ⟨xs[j], ?_, ?_, fun h => absurd h (by omega)⟩
  · rw [Nat.zero_add, h.cellAt j (by omega)]; exact List.getElem?_eq_getElem hl
  · rw [Nat.zero_add]; exact h.frozenAt j
/-- Two rows lie apart. -/
def Dj (a : Option Addr) (n : Nat) (a' : Option Addr) (n' : Nat) : Prop := ∀ g, rowOf a n = some g → rowOf a' n' = some g → False
theorem Dj.symm {a a' : Option Addr} {n n' : Nat} (h : Dj a n a' n') : Dj a' n' a n := fun g h1 h2 => h g h2 h1
theorem dj_of {k k' : IntKind} {w w' : World} {B lo : Nat} {a a' : Option Addr} {n n' : Nat} {zs zs' : List Int} (h : Has k w B a n zs) (h' : Own k' w' lo a' n' zs') (hl : B ≤ lo) : Dj a n a' n' := by
  intro g h1 h2
  have := h.row g h1
  have := h'.row g h2
  omega
theorem Own.far {k : IntKind} {w w' : World} {lo : Nat} {a a' : Option Addr} {n n' : Nat} {zs : List Int} (h : Own k w lo a n zs) (hg : w.grownBy w' (rowOf a' n')) (hd : Dj a n a' n') : Own k w' lo a n zs :=
  ⟨h.1, fun hn => by
    obtain ⟨b, off, rfl, hl, hb, hc⟩ := h.2 hn
    have hne : some b ≠ rowOf a' n' := fun e => hd b (by simp [rowOf]; omega) e.symm
    have hk := hg.block b hb hne
    have hs := hg.size
    exact ⟨b, off, rfl, hl, by omega, fun i hi => ⟨(World.cell?_of_block (w := w) hk).trans (hc i hi).1, (World.frozen?_of_block (w := w) hk).trans (hc i hi).2⟩⟩⟩
theorem Has.far {k k' : IntKind} {w w' : World} {B lo : Nat} {a a' : Option Addr} {n n' : Nat} {zs zs' : List Int} (h : Has k w B a n zs) (ho : Own k' w lo a' n' zs') (hlo : B ≤ lo) (hB : B ≤ w.heap.size) (hg : w.grownBy w' (rowOf a' n')) : Has k w' B a n zs :=
  h.grown hg hB (fun g e => Nat.le_trans hlo (ho.row g e))
theorem Below.far {k' : IntKind} {w0 w w' : World} {B lo : Nat} {a' : Option Addr} {n' : Nat} {zs' : List Int} (h : Below B w0 w) (ho : Own k' w lo a' n' zs') (hlo : B ≤ lo) (hB : B ≤ w.heap.size) (hg : w.grownBy w' (rowOf a' n')) : Below B w0 w' :=
  h.grown hg hB (fun g e => Nat.le_trans hlo (ho.row g e))
/-- A call hands back a new row, and changes nothing that was there. -/
def OutR (k : IntKind) (w : World) (R : List Int) (e : Ending) (w' : World) : Prop :=
  ∃ A N c, e = .returned (.slice A N c) ∧ (A = none → c = 0) ∧ Own k w' w.heap.size A N R ∧ Below w.heap.size w w'
/-- The marks that follow k0. -/
def marks (g : Int → Int) (k0 : Int) (n : Nat) : List Int := (List.range n).map fun j => g (k0 + (j : Nat))
theorem marks_length (g : Int → Int) (k0 : Int) (n : Nat) : (marks g k0 n).length = n := by simp [marks]
theorem marks_getD (g : Int → Int) (k0 : Int) (n j : Nat) (h : j < n) : (marks g k0 n).getD j 0 = g (k0 + (j : Nat)) := by
  simp [marks, List.getD_eq_getElem?_getD, h]
theorem grownBy_setCell (w : World) (p : Addr) (u : Value) : w.grownBy (w.setCell p u) (some p.block) :=
  ⟨rfl, rfl, rfl, by simp [World.setCell], fun i _ hne => Below.heap_setCell w p u i (fun e => hne (by rw [e]))⟩
theorem grownBy_trans {a b c : World} {row : Option Nat} (h : a.grownBy b row) (k : b.grownBy c row) : a.grownBy c row :=
  ⟨k.os.trans h.os, k.tape.trans h.tape, k.output.trans h.output, Nat.le_trans h.size k.size, fun i hi hne => (k.block i (Nat.lt_of_lt_of_le hi h.size) hne).trans (h.block i hi hne)⟩
theorem Below.drewN' {B : Nat} {a w : World} (h : Below B a w) (m : Nat) : Below B a (w.drewN m) := ⟨h.os, h.tape, h.output, h.size, h.block⟩
theorem grownBy_refl_none (w : World) (row : Option Nat) : w.grownBy w row := World.grownBy.refl w row
end Go.Proofs.Ytdlafigjkefllaa
namespace Go.Proofs.Ytdlafigjkefllaa
open Go Go.RowKit
set_option linter.unusedVariables false

def flat {α : Type} [Inhabited α] (nc : Nat) (cell : α → Nat → Value) (zs : List α) (j : Nat) : Value := cell (zs.getD (j / nc) default) (j % nc)
theorem flat_at {α : Type} [Inhabited α] {nc : Nat} {cell : α → Nat → Value} (zs : List α) (i j : Nat) (hj : j < nc) : flat nc cell zs (i * nc + j) = cell (zs.getD i default) j := by
  have h0 : 0 < nc := by omega
  unfold flat
  rw [Nat.add_comm, Nat.add_mul_div_right _ _ h0, Nat.div_eq_of_lt hj, Nat.add_mul_mod_self_right, Nat.mod_eq_of_lt hj, Nat.zero_add]
theorem flat_le {nc n i j : Nat} (hi : i < n) (hj : j < nc) : i * nc + j < n * nc := by
  have : (i + 1) * nc ≤ n * nc := Nat.mul_le_mul_right _ hi
  rw [Nat.succ_mul] at this
  omega

/-- A slice of n elements of nc cells reads as zs, in a block below B. -/
def HasR {α : Type} [Inhabited α] (nc : Nat) (cell : α → Nat → Value) (w : World) (B : Nat) (a : Option Addr) (n : Nat) (zs : List α) : Prop :=
  zs.length = n ∧ (0 < n → ∃ b off, a = some ⟨b, off, none⟩ ∧ b < B ∧ ∀ j, j < n * nc → w.cell? ⟨b, off + j, none⟩ = some (flat nc cell zs j))

/-- The same of a row that lies in the blocks from lo to hi, and that may be written. -/
def OwnR {α : Type} [Inhabited α] (nc : Nat) (cell : α → Nat → Value) (w : World) (lo hi : Nat) (a : Option Addr) (n : Nat) (zs : List α) : Prop :=
  zs.length = n ∧ (0 < n → ∃ b off, a = some ⟨b, off, none⟩ ∧ lo ≤ b ∧ b < hi ∧ ∀ j, j < n * nc → w.cell? ⟨b, off + j, none⟩ = some (flat nc cell zs j) ∧ w.frozen? ⟨b, off + j, none⟩ = false)

/-- What was there stands, but for the blocks from lo to hi. -/
structure Mk (lo hi : Nat) (w w' : World) : Prop where
  os : w'.os = w.os
  tape : w'.tape = w.tape
  output : w'.output = w.output
  size : w.heap.size ≤ w'.heap.size
  block : ∀ k, k < w.heap.size → (k < lo ∨ hi ≤ k) → w'.heap[k]? = w.heap[k]?
/-- Nothing that was there has turned. -/
abbrev Mk0 (w w' : World) : Prop := Mk 0 0 w w'
section
variable {lo hi : Nat} {w w' w'' : World}
theorem Mk.refl (lo hi : Nat) (w : World) : Mk lo hi w w := ⟨rfl, rfl, rfl, Nat.le_refl _, fun _ _ _ => rfl⟩
theorem Mk.trans (h : Mk lo hi w w') (k : Mk lo hi w' w'') : Mk lo hi w w'' :=
  ⟨k.os.trans h.os, k.tape.trans h.tape, k.output.trans h.output, Nat.le_trans h.size k.size, fun i hi hr => (k.block i (Nat.lt_of_lt_of_le hi h.size) hr).trans (h.block i hi hr)⟩
theorem Mk.wide {lo' hi' : Nat} (h : Mk lo hi w w') (hl : hi ≤ lo ∨ (lo' ≤ lo ∧ hi ≤ hi')) : Mk lo' hi' w w' := ⟨h.os, h.tape, h.output, h.size, fun k hk hr => h.block k hk (by omega)⟩
theorem Mk.of_below (h : Below w.heap.size w w') : Mk0 w w' := ⟨h.os, h.tape, h.output, h.size, fun k hk _ => h.block k hk⟩
theorem Mk.below {w0 : World} {B : Nat} (h : Mk lo hi w w') (hb : Below B w0 w) (hB : B ≤ w.heap.size) (hr : B ≤ lo ∨ hi ≤ lo) : Below B w0 w' :=
  hb.trans ⟨h.os, h.tape, h.output, h.size, fun k hk => h.block k (by omega) (by omega)⟩
theorem Mk.below0 (h : Mk0 w w') : Below w.heap.size w w' := ⟨h.os, h.tape, h.output, h.size, fun k hk => h.block k hk (by omega)⟩
theorem Mk.cell (h : Mk lo hi w w') {b o : Nat} (hb : b < w.heap.size) (hr : b < lo ∨ hi ≤ b) : w'.cell? ⟨b, o, none⟩ = w.cell? ⟨b, o, none⟩ := World.cell?_of_block (w := w) (h.block b hb hr)
theorem Mk.frozen (h : Mk lo hi w w') {b o : Nat} (hb : b < w.heap.size) (hr : b < lo ∨ hi ≤ b) : w'.frozen? ⟨b, o, none⟩ = w.frozen? ⟨b, o, none⟩ := World.frozen?_of_block (w := w) (h.block b hb hr)
/-- Out of a call's grownBy at a row within the range. -/
theorem Mk.of_grown {row : Option Nat} (h : w.grownBy w' row) (hr : ∀ g, row = some g → lo ≤ g ∧ g < hi) : Mk lo hi w w' :=
  ⟨h.os, h.tape, h.output, h.size, fun k hk hn => h.block k hk (fun e => by have := hr k e.symm; omega)⟩
theorem Mk.drewN (w : World) (m : Nat) : Mk0 w (w.drewN m) := ⟨rfl, rfl, rfl, Nat.le_refl _, fun _ _ _ => rfl⟩
theorem Mk.alloc (w : World) (o : Obj) : Mk0 w (w.alloc o) := .of_below ((Below.refl _ _).alloc (Nat.le_refl _) _)
theorem Mk.set (w : World) (p : Addr) (u : Value) (h1 : lo ≤ p.block) (h2 : p.block < hi) : Mk lo hi w (w.setCell p u) :=
  ⟨rfl, rfl, rfl, by simp [World.setCell], fun k hk hr => Below.heap_setCell _ _ _ _ (by omega)⟩
theorem Mk.put {w w' : World} (h : Mk0 w w') (p : Addr) (u : Value) (hp : w.heap.size ≤ p.block) : Mk0 w (w'.setCell p u) := .of_below (h.below0.setCell hp u)
theorem Mk.new {w w' : World} (h : Mk0 w w') (o : Obj) : Mk0 w (w'.alloc o) := h.trans (Mk.alloc _ _)
/-- Old cells behind a call, as rules for the walk. -/
theorem Mk.kept {w w' : World} (h : Mk0 w w') : (∀ b o, b < w.heap.size → w'.cell? ⟨b, o, none⟩ = w.cell? ⟨b, o, none⟩) ∧ (∀ b o, b < w.heap.size → w'.frozen? ⟨b, o, none⟩ = w.frozen? ⟨b, o, none⟩) :=
  ⟨fun b o hb => h.cell hb (.inr (Nat.zero_le _)), fun b o hb => h.frozen hb (.inr (Nat.zero_le _))⟩
theorem Mk.cellAt {w w' : World} (h : Mk0 w w') {b o : Nat} {v : Value} (hc : w.cell? ⟨b, o, none⟩ = some v) : w'.cell? ⟨b, o, none⟩ = some v :=
  (h.cell (World.block_lt_of_cell? w _ hc) (.inr (Nat.zero_le _))).trans hc
theorem Mk.frozenAt {w w' : World} (h : Mk0 w w') {b o : Nat} {v : Value} (hc : w.cell? ⟨b, o, none⟩ = some v) (hf : w.frozen? ⟨b, o, none⟩ = false) : w'.frozen? ⟨b, o, none⟩ = false :=
  (h.frozen (World.block_lt_of_cell? w _ hc) (.inr (Nat.zero_le _))).trans hf
theorem Mk.drew1 (w : World) : Mk0 w w.drew := Mk.drewN w 1
theorem Mk.putR {lo hi : Nat} {w w' : World} (h : Mk lo hi w w') (p : Addr) (u : Value) (h1 : lo ≤ p.block) (h2 : p.block < hi) : Mk lo hi w (w'.setCell p u) := h.trans (Mk.set _ _ _ h1 h2)
theorem Mk.andR {lo hi : Nat} {w w1 w2 : World} (h : Mk0 w w1) (m : Mk lo hi w1 w2) (hl : w.heap.size ≤ lo ∨ hi ≤ lo) : Mk0 w w2 := .of_below (m.below h.below0 h.size hl)
theorem Mk.cellAtR {lo hi : Nat} {w w' : World} (h : Mk lo hi w w') {b o : Nat} {v : Value} (hc : w.cell? ⟨b, o, none⟩ = some v) (hr : b < lo ∨ hi ≤ b) : w'.cell? ⟨b, o, none⟩ = some v :=
  (h.cell (World.block_lt_of_cell? w _ hc) hr).trans hc
/-- A world is given a name; its size is told. -/
theorem sized (w : World) {P : World → Prop} (h : ∀ w', w' = w → w'.heap.size = w.heap.size → P w') : P w := h w rfl rfl
end

/-- A box: the cells of a block from its head on. -/
def Bx (w : World) (b : Nat) (vs : List Value) : Prop := ∀ j v, vs[j]? = some v → w.cell? ⟨b, j, none⟩ = some v
theorem Bx.mk {lo hi : Nat} {w w' : World} {b : Nat} {vs : List Value} (h : Bx w b vs) (hm : Mk lo hi w w') (hb : b < w.heap.size) (hr : b < lo ∨ hi ≤ b) : Bx w' b vs :=
  fun j v hv => (hm.cell hb hr).trans (h j v hv)
theorem Bx.new (w : World) (vs : List Value) (t : TypeId) : Bx (w.alloc (.cells vs.toArray t)) w.heap.size vs := fun j v hv => by
  rw [World.cell?_alloc_at _ _ _ _ rfl]
  simpa using hv
theorem Bx.low {w : World} {b : Nat} {vs : List Value} (h : Bx w b vs) (o : Obj) (hb : b < w.heap.size) : Bx (w.alloc o) b vs := h.mk (Mk.alloc w o) hb (.inr (Nat.zero_le _))

section
variable {α : Type} [Inhabited α] {nc : Nat} {cell : α → Nat → Value} {w w' : World} {B lo hi n : Nat} {a : Option Addr} {zs : List α}
theorem HasR.at_ (h : HasR nc cell w B a n zs) {i : Nat} (hi : i < n) : ∃ b off x, a = some ⟨b, off, none⟩ ∧ b < B ∧ Hid (x = zs.getD i default) ∧ ∀ j, j < nc → w.cell? ⟨b, off + (i * nc + j), none⟩ = some (cell x j) := by
  obtain ⟨b, off, e, hb, hc⟩ := h.2 (by omega)
  exact ⟨b, off, _, e, hb, rfl, fun j hj => by rw [hc _ (flat_le hi hj), flat_at _ _ _ hj]⟩
theorem HasR.mono {B' : Nat} (h : HasR nc cell w B a n zs) (hB : B ≤ B') : HasR nc cell w B' a n zs :=
  ⟨h.1, fun hn => by
    obtain ⟨b, off, e, hb, hc⟩ := h.2 hn
    exact ⟨b, off, e, by omega, hc⟩⟩
theorem HasR.mk {lo' hi' : Nat} (h : HasR nc cell w B a n zs) (hm : Mk lo' hi' w w') (hB : B ≤ w.heap.size) (hr : B ≤ lo' ∨ hi' ≤ lo') : HasR nc cell w' B a n zs :=
  ⟨h.1, fun hn => by
    obtain ⟨b, off, e, hb, hc⟩ := h.2 hn
    exact ⟨b, off, e, hb, fun j hj => (hm.cell (by omega) (by omega)).trans (hc j hj)⟩⟩
theorem OwnR.has (h : OwnR nc cell w lo hi a n zs) : HasR nc cell w hi a n zs :=
  ⟨h.1, fun hn => by
    obtain ⟨b, off, e, _, hb, hc⟩ := h.2 hn
    exact ⟨b, off, e, hb, fun j hj => (hc j hj).1⟩⟩
theorem OwnR.mk {lo' hi' : Nat} (h : OwnR nc cell w lo hi a n zs) (hm : Mk lo' hi' w w') (hB : hi ≤ w.heap.size) (hr : hi ≤ lo' ∨ hi' ≤ lo ∨ hi' ≤ lo') : OwnR nc cell w' lo hi a n zs :=
  ⟨h.1, fun hn => by
    obtain ⟨b, off, e, hl, hb, hc⟩ := h.2 hn
    exact ⟨b, off, e, hl, hb, fun j hj => ⟨(hm.cell (by omega) (by omega)).trans (hc j hj).1, (hm.frozen (by omega) (by omega)).trans (hc j hj).2⟩⟩⟩
theorem OwnR.wide {lo' hi' : Nat} (h : OwnR nc cell w lo hi a n zs) (hl : lo' ≤ lo) (hh : hi ≤ hi') : OwnR nc cell w lo' hi' a n zs :=
  ⟨h.1, fun hn => by
    obtain ⟨b, off, e, hl, hb, hc⟩ := h.2 hn
    exact ⟨b, off, e, by omega, by omega, hc⟩⟩
theorem OwnR.set (h : OwnR nc cell w lo hi a n zs) (p : Addr) (u : Value) (hp : p.block < lo ∨ hi ≤ p.block) : OwnR nc cell (w.setCell p u) lo hi a n zs :=
  ⟨h.1, fun hn => by
    obtain ⟨b, off, e, hl, hb, hc⟩ := h.2 hn
    have hk : (w.setCell p u).heap[b]? = w.heap[b]? := Below.heap_setCell w p u b (by omega)
    exact ⟨b, off, e, hl, hb, fun j hj => ⟨(World.cell?_of_block (w := w) hk).trans (hc j hj).1, (World.frozen?_of_block (w := w) hk).trans (hc j hj).2⟩⟩⟩
theorem World.size_set (w : World) (p : Addr) (u : Value) : (w.setCell p u).heap.size = w.heap.size := by simp [World.setCell]
theorem OwnR.none_ (w : World) (lo hi : Nat) (a : Option Addr) : OwnR nc cell w lo hi a 0 [] := ⟨rfl, fun h => absurd h (by omega)⟩
theorem HasR.none_ (w : World) (B : Nat) (a : Option Addr) : HasR nc cell w B a 0 [] := ⟨rfl, fun h => absurd h (by omega)⟩
theorem OwnR.row (h : OwnR nc cell w lo hi a n zs) : ∀ g, rowOf a n = some g → lo ≤ g ∧ g < hi := by
  intro g hg
  unfold rowOf at hg
  split at hg
  · cases hg
  · obtain ⟨b, off, rfl, hl, hh, _⟩ := h.2 (by omega)
    simp at hg
    omega
theorem OwnR.fill {b off : Nat} (h : OwnR nc cell w lo hi (some ⟨b, off, none⟩) n zs) (f : Nat → Value) : Fill w b off (n * nc) 0 f := by
  intro j hj
  have hn : 0 < n := Nat.pos_of_ne_zero (fun e => by subst e; simp at hj)
  obtain ⟨b', off', e, _, _, hc⟩ := h.2 hn
  simp only [Option.some.injEq, Addr.mk.injEq, and_true] at e
  obtain ⟨rfl, rfl⟩ := e
  exact ⟨_, (hc j hj).1, (hc j hj).2, fun h => absurd h (by omega)⟩
theorem Fill.ownR {b off : Nat} {f : Nat → Value} (h : Fill w b off (n * nc) (n * nc) f) (hz : zs.length = n) (hf : ∀ i, i < n → ∀ j, j < nc → f (i * nc + j) = cell (zs.getD i default) j) (hl : lo ≤ b) (hh : b < hi) (h0 : 0 < nc) : OwnR nc cell w lo hi (some ⟨b, off, none⟩) n zs :=
  ⟨hz, fun hn => ⟨b, off, rfl, hl, hh, fun j hj => by
    have e : j = j / nc * nc + j % nc := by rw [Nat.mul_comm]; exact (Nat.div_add_mod j nc).symm
    have hi' : j / nc < n := Nat.div_lt_of_lt_mul (by rw [Nat.mul_comm]; exact hj)
    have hj' : j % nc < nc := Nat.mod_lt _ h0
    have := hf _ hi' _ hj'
    rw [← e] at this
    show _ = some (cell (zs.getD (j / nc) default) (j % nc)) ∧ _
    rw [← this]
    exact h.all j hj⟩⟩
end
/-- The flat content of a row is f. -/
theorem Fill.congr_ {w : World} {b off n i : Nat} {f g : Nat → Value} (h : Fill w b off n i f) (hfg : ∀ j, j < i → f j = g j) : Fill w b off n i g := by
  intro j hj
  obtain ⟨v, h1, h2, h3⟩ := h j hj
  exact ⟨v, h1, h2, fun hlt => (h3 hlt).trans (hfg j hlt)⟩

theorem ownsRow_fillR {w : World} {base g n cap nc : Nat} {e : TypeId} {xs : List Value} (h : w.ownsRow base e nc (.slice (some ⟨g, 0, none⟩) n cap) n xs) (f : Nat → Value) : Fill w g 0 (n * nc) 0 f := by
  intro j hj
  have hl : j < xs.length := by have := h.1; omega
  refine ⟨xs[j], ?_, ?_, fun h => absurd h (by omega)⟩
  · rw [Nat.zero_add, h.cellAt j (by omega)]; exact List.getElem?_eq_getElem hl
  · rw [Nat.zero_add]; exact h.frozenAt j
theorem Fill.any {w : World} {b off n i : Nat} {f : Nat → Value} (h : Fill w b off n i f) (j : Nat) (hj : j < n) : ∃ v, w.cell? ⟨b, off + j, none⟩ = some v ∧ w.frozen? ⟨b, off + j, none⟩ = false := by
  obtain ⟨v, h1, h2, _⟩ := h j hj
  exact ⟨v, h1, h2⟩
theorem Fill.any0 {w : World} {b n i : Nat} {f : Nat → Value} (h : Fill w b 0 n i f) (j : Nat) (hj : j < n) : ∃ v, w.cell? ⟨b, j, none⟩ = some v ∧ w.frozen? ⟨b, j, none⟩ = false := by
  have := h.any j hj
  rwa [Nat.zero_add] at this
theorem Fill.put {w : World} {b off n : Nat} {f : Nat → Value} (h : Fill w b off n 0 f) (p : Addr) (u : Value) : Fill (w.setCell p u) b off n 0 f := by
  intro j hj
  obtain ⟨v, h1, h2, _⟩ := h j hj
  by_cases e : p = ⟨b, off + j, none⟩
  · subst e
    exact ⟨u, World.cell?_setCell_same _ _ _ h1, by rw [World.frozen?_setCell]; exact h2, fun hlt => absurd hlt (by omega)⟩
  · exact ⟨v, by rw [World.cell?_setCell_other _ _ _ _ e]; exact h1, by rw [World.frozen?_setCell]; exact h2, fun hlt => absurd hlt (by omega)⟩
/-! Integers: the older notions. -/
abbrev icell (k : IntKind) (x : Int) (_ : Nat) : Value := .int k x
theorem flat_int (k : IntKind) (zs : List Int) (j : Nat) : flat 1 (icell k) zs j = .int k (zs.getD j 0) := by
  unfold flat
  rw [Nat.div_one]
  rfl
theorem hasR_int {k : IntKind} {w : World} {B n : Nat} {a : Option Addr} {zs : List Int} : HasR 1 (icell k) w B a n zs ↔ Has k w B a n zs := by
  simp only [HasR, Has, flat_int, Nat.mul_one]
theorem OwnR.int {k : IntKind} {w : World} {lo hi n : Nat} {a : Option Addr} {zs : List Int} (h : OwnR 1 (icell k) w lo hi a n zs) (hh : hi ≤ w.heap.size) : Own k w lo a n zs :=
  ⟨h.1, fun hn => by
    obtain ⟨b, off, e, hl, hb, hc⟩ := h.2 hn
    refine ⟨b, off, e, hl, by omega, fun i hi => ?_⟩
    rw [← flat_int]
    exact hc i (by omega)⟩
theorem Own.toR {k : IntKind} {w : World} {lo hi n : Nat} {a : Option Addr} {zs : List Int} (h : Own k w lo a n zs) (hh : w.heap.size ≤ hi) : OwnR 1 (icell k) w lo hi a n zs :=
  ⟨h.1, fun hn => by
    obtain ⟨b, off, e, hl, hb, hc⟩ := h.2 hn
    refine ⟨b, off, e, hl, by omega, fun j hj => ?_⟩
    rw [flat_int]
    exact hc j (by omega)⟩
/-- A row written by a call that is told by grownBy. -/
theorem Own.toR_far {k : IntKind} {w w' : World} {lo hi n : Nat} {a : Option Addr} {zs zs' : List Int} (h0 : OwnR 1 (icell k) w lo hi a n zs) (h : Own k w' lo a n zs') : OwnR 1 (icell k) w' lo hi a n zs' :=
  ⟨h.1, fun hn => by
    obtain ⟨b, off, e, hl, hb, hc⟩ := h.2 hn
    obtain ⟨b', off', e', hl', hb', hc'⟩ := h0.2 hn
    have ee : b' = b := by rw [e] at e'; injection e' with e'; injection e' with e1; exact e1.symm
    refine ⟨b, off, e, hl, by omega, fun j hj => ?_⟩
    rw [flat_int]
    exact hc j (by omega)⟩
/-- Old facts on a cell behind a store elsewhere. -/
theorem cell_set {w : World} {b o : Nat} {v : Value} (h : w.cell? ⟨b, o, none⟩ = some v) (p : Addr) (u : Value) (hp : p.block ≠ b ∨ p.off ≠ o) : (w.setCell p u).cell? ⟨b, o, none⟩ = some v := by
  rw [World.cell?_setCell_other _ _ _ _ (fun e => by subst e; simp at hp)]; exact h
theorem frozen_set {w : World} {b o : Nat} (h : w.frozen? ⟨b, o, none⟩ = false) (p : Addr) (u : Value) : (w.setCell p u).frozen? ⟨b, o, none⟩ = false := by
  rw [World.frozen?_setCell]; exact h
theorem cell_kept {lo hi : Nat} {w w' : World} {b o : Nat} {v : Value} (h : w.cell? ⟨b, o, none⟩ = some v) (hm : Mk lo hi w w') (hr : b < lo ∨ hi ≤ b) : w'.cell? ⟨b, o, none⟩ = some v := hm.cellAtR h hr
theorem frozen_kept {lo hi : Nat} {w w' : World} {b o : Nat} (h : w.frozen? ⟨b, o, none⟩ = false) (hm : Mk lo hi w w') (hb : b < w.heap.size) (hr : b < lo ∨ hi ≤ b) : w'.frozen? ⟨b, o, none⟩ = false := (hm.frozen hb hr).trans h
end Go.Proofs.Ytdlafigjkefllaa
namespace Go.Proofs.Ytdlafigjkefllaa
open Go
theorem infoI64 : (Try.prog.info? 3).map (fun i => (i.zero, i.size, i.bytes)) = some (some (.int .i64 0), 1, 8) := by kernel_rfl
end Go.Proofs.Ytdlafigjkefllaa
namespace Go.Proofs.Ytdlafigjkefllaa
open Go
theorem retI {a b : Int} (h : a = b) : Ending.returned (.int .i64 a) = .returned (.int .i64 b) := by rw [h]
theorem retB {a b : Bool} (h : a = b) : Ending.returned (.bool a) = .returned (.bool b) := by rw [h]
end Go.Proofs.Ytdlafigjkefllaa
