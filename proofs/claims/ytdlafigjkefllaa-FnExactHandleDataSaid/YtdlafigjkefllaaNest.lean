
/- Rows of elements that lead to rows themselves. -/
import Derived.Test.YtdlafigjkefllaaRow
namespace Go.Proofs.Ytdlafigjkefllaa
open Go Go.RowKit
set_option linter.unusedVariables false

/-- What an element of a row is: 'el w B b o x': from cell o of block b on lies x, and what it leads to lies below B; 'ow w lo hi b o x': besides it may be written, and what it leads to lies in the blocks from lo to hi. -/
structure El (α : Type) [Inhabited α] where
  nc : Nat
  pos : 0 < nc
  el : World → Nat → Nat → Nat → α → Prop
  far : ∀ {lo hi : Nat} {w w' : World} {B b o : Nat} {x : α}, el w B b o x → Mk lo hi w w' → b < B → B ≤ w.heap.size → (B ≤ lo ∨ hi ≤ lo) → el w' B b o x
  mono : ∀ {w : World} {B B' b o : Nat} {x : α}, el w B b o x → B ≤ B' → el w B' b o x
  ow : World → Nat → Nat → Nat → Nat → α → Prop
  ow_mk : ∀ {lo hi lo' hi' : Nat} {w w' : World} {b o : Nat} {x : α}, ow w lo hi b o x → Mk lo' hi' w w' → b < w.heap.size → hi ≤ w.heap.size → (b < lo' ∨ hi' ≤ b) → (hi ≤ lo' ∨ hi' ≤ lo ∨ hi' ≤ lo') → ow w' lo hi b o x
  ow_set : ∀ {lo hi : Nat} {w : World} {b o : Nat} {x : α}, ow w lo hi b o x → ∀ (p : Addr) (u : Value), (p.block < lo ∨ hi ≤ p.block) → (p.block ≠ b ∨ p.off < o ∨ o + nc ≤ p.off) → ow (w.setCell p u) lo hi b o x
  ow_has : ∀ {w : World} {lo hi b o : Nat} {x : α}, ow w lo hi b o x → el w hi b o x
  ow_wide : ∀ {w : World} {lo hi hi' b o : Nat} {x : α}, ow w lo hi b o x → hi ≤ hi' → ow w lo hi' b o x

def HasD {α : Type} [Inhabited α] (E : El α) (w : World) (B : Nat) (a : Option Addr) (n : Nat) (ts : List α) : Prop :=
  ts.length = n ∧ (0 < n → ∃ b off, a = some ⟨b, off, none⟩ ∧ b < B ∧ ∀ i, i < n → E.el w B b (off + i * E.nc) (ts.getD i default))
def OwnD {α : Type} [Inhabited α] (E : El α) (w : World) (lo hi : Nat) (a : Option Addr) (n : Nat) (ts : List α) : Prop :=
  ts.length = n ∧ (0 < n → ∃ b off mid, a = some ⟨b, off, none⟩ ∧ lo ≤ b ∧ b < mid ∧ mid ≤ hi ∧ ∀ i, i < n → E.ow w mid hi b (off + i * E.nc) (ts.getD i default))
section
variable {α : Type} [Inhabited α] {E : El α} {w w' : World} {B lo hi n : Nat} {a : Option Addr} {ts : List α}
theorem HasD.at_ (h : HasD E w B a n ts) {i : Nat} (hi : i < n) : ∃ b off x, a = some ⟨b, off, none⟩ ∧ b < B ∧ Hid (x = ts.getD i default) ∧ E.el w B b (off + i * E.nc) x := by
  obtain ⟨b, off, e, hb, hc⟩ := h.2 (by omega)
  exact ⟨b, off, _, e, hb, rfl, hc i hi⟩
theorem HasD.mono {B' : Nat} (h : HasD E w B a n ts) (hB : B ≤ B') : HasD E w B' a n ts :=
  ⟨h.1, fun hn => by
    obtain ⟨b, off, e, hb, hc⟩ := h.2 hn
    exact ⟨b, off, e, by omega, fun i hi => E.mono (hc i hi) hB⟩⟩
theorem HasD.mk {lo' hi' : Nat} (h : HasD E w B a n ts) (hm : Mk lo' hi' w w') (hB : B ≤ w.heap.size) (hr : B ≤ lo' ∨ hi' ≤ lo') : HasD E w' B a n ts :=
  ⟨h.1, fun hn => by
    obtain ⟨b, off, e, hb, hc⟩ := h.2 hn
    exact ⟨b, off, e, hb, fun i hi => E.far (hc i hi) hm hb hB hr⟩⟩
theorem OwnD.has (h : OwnD E w lo hi a n ts) : HasD E w hi a n ts :=
  ⟨h.1, fun hn => by
    obtain ⟨b, off, mid, e, hl, hm, hh, hc⟩ := h.2 hn
    exact ⟨b, off, e, by omega, fun i hi => E.ow_has (hc i hi)⟩⟩
theorem OwnD.mk {lo' hi' : Nat} (h : OwnD E w lo hi a n ts) (hm : Mk lo' hi' w w') (hB : hi ≤ w.heap.size) (hr : hi ≤ lo' ∨ hi' ≤ lo ∨ hi' ≤ lo') : OwnD E w' lo hi a n ts :=
  ⟨h.1, fun hn => by
    obtain ⟨b, off, mid, e, hl, hm', hh, hc⟩ := h.2 hn
    exact ⟨b, off, mid, e, hl, hm', hh, fun i hi => E.ow_mk (hc i hi) hm (by omega) (by omega) (by omega) (by omega)⟩⟩
theorem OwnD.set (h : OwnD E w lo hi a n ts) (p : Addr) (u : Value) (hp : p.block < lo ∨ hi ≤ p.block) : OwnD E (w.setCell p u) lo hi a n ts :=
  ⟨h.1, fun hn => by
    obtain ⟨b, off, mid, e, hl, hm', hh, hc⟩ := h.2 hn
    exact ⟨b, off, mid, e, hl, hm', hh, fun i hi => E.ow_set (hc i hi) p u (by omega) (.inl (by omega))⟩⟩
theorem OwnD.wide {lo' hi' : Nat} (h : OwnD E w lo hi a n ts) (hl : lo' ≤ lo) (hh : hi ≤ hi') : OwnD E w lo' hi' a n ts :=
  ⟨h.1, fun hn => by
    obtain ⟨b, off, mid, e, hl, hm', hh, hc⟩ := h.2 hn
    exact ⟨b, off, mid, e, by omega, hm', by omega, fun i hi => E.ow_wide (hc i hi) (by omega)⟩⟩
theorem HasD.none_ (E : El α) (w : World) (B : Nat) (a : Option Addr) : HasD E w B a 0 [] := ⟨rfl, fun h => absurd h (by omega)⟩
theorem OwnD.none_ (E : El α) (w : World) (lo hi : Nat) (a : Option Addr) : OwnD E w lo hi a 0 [] := ⟨rfl, fun h => absurd h (by omega)⟩
end
/-- The sum of f over the first k elements. -/
def sumTo {α : Type} [Inhabited α] (f : α → Nat) (ts : List α) : Nat → Nat
  | 0 => 0
  | k + 1 => sumTo f ts k + f (ts.getD k default)
theorem sumTo_le {α : Type} [Inhabited α] (f : α → Nat) (ts : List α) {k n : Nat} (h : k ≤ n) : sumTo f ts k ≤ sumTo f ts n := by
  induction n with
  | zero => obtain rfl : k = 0 := by omega
            exact Nat.le_refl _
  | succ n ih =>
    by_cases e : k = n + 1
    · subst e; exact Nat.le_refl _
    · have := ih (by omega); rw [sumTo]; omega
theorem sumTo_at {α : Type} [Inhabited α] (f : α → Nat) (ts : List α) {k n : Nat} (h : k < n) : sumTo f ts k + f (ts.getD k default) ≤ sumTo f ts n := sumTo_le f ts (k := k + 1) h
end Go.Proofs.Ytdlafigjkefllaa
