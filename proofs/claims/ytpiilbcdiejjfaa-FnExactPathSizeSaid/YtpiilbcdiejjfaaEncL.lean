
/- Encodings as lists; a row of bytes of the call's own. -/
import Derived.Test.YtpiilbcdiejjfaaEnc
import Derived.Test.YtpiilbcdiejjfaaStat
import Derived.Test.YtpiilbcdiejjfaaEncable
import Derived.Test.YtpiilbcdiejjfaaVarG
import Derived.Test.YtpiilbcdiejjfaaBytesOps
namespace Go.Proofs.Ytpiilbcdiejjfaa
open Go.ChangeShapes Go.WideShapes Go.ChangeAt Go.RowKit
set_option linter.unusedVariables false

def encL (zs : List Int) : List Int := zs.flatMap vb
theorem encL_app (a b : List Int) : encL (a ++ b) = encL a ++ encL b := by simp [encL]
theorem encL_len (zs : List Int) : (encL zs).length ≤ 6 * zs.length := by
  induction zs with
  | nil => simp [encL]
  | cons z zs ih =>
    have := vb_len z
    have h : encL (z :: zs) = vb z ++ encL zs := rfl
    rw [h, List.length_append, List.length_cons]
    omega
theorem encN_take (zs : List Int) : ∀ k, k ≤ zs.length → encN zs k = encL (zs.take k)
  | 0, _ => rfl
  | k + 1, h => by
    have e : zs.take (k + 1) = zs.take k ++ [zs.getD k 0] := by
      rw [List.take_add_one, List.getD_eq_getElem?_getD, List.getElem?_eq_getElem (by omega)]
      rfl
    rw [encN, encN_take zs k (by omega), e, encL_app]
    simp [encL]
theorem encN_all (zs : List Int) (n : Nat) (h : n = zs.length) : encN zs n = encL zs := by
  subst h
  rw [encN_take zs _ (Nat.le_refl _), List.take_length]
def hopBytes (x : THop) : List Int := if hopOk x then encL (hopF x) else []
def hopsB (hs : List THop) : Nat → List Int
  | 0 => []
  | k + 1 => hopsB hs k ++ hopBytes (hs.getD k default)
theorem hopBytes_len (x : THop) : (hopBytes x).length ≤ 30 := by
  unfold hopBytes
  split
  · exact encL_len (hopF x)
  · simp
theorem hopsB_len (hs : List THop) : ∀ k, (hopsB hs k).length ≤ 30 * k
  | 0 => by simp [hopsB]
  | k + 1 => by
    have := hopsB_len hs k
    have := hopBytes_len (hs.getD k default)
    simp only [hopsB, List.length_append]
    omega
theorem hopsB_ok (hs : List THop) : ∀ k, okUp hs k = true → hopsB hs k = encL (hopsN hs k)
  | 0, _ => rfl
  | k + 1, h => by
    rw [okUp, Bool.and_eq_true] at h
    rw [hopsB, hopsN, encL_app, hopsB_ok hs k h.1, hopBytes, if_pos h.2]
def segBytes (x0 x1 : Int) (zs : List THop) (n : Nat) : List Int := if encB x0 x1 zs n then encL [x0, x1, (n : Int)] ++ hopsB zs n else []
theorem encB_le {x0 x1 : Int} {zs : List THop} {n : Nat} (h : encB x0 x1 zs n = true) : n ≤ 8 := by
  unfold encB at h
  split at h
  · omega
  · cases h
theorem segBytes_len (x0 x1 : Int) (zs : List THop) (n : Nat) : (segBytes x0 x1 zs n).length ≤ 258 := by
  unfold segBytes
  split
  · next h =>
    have := encB_le h
    have := hopsB_len zs n
    have := encL_len [x0, x1, (n : Int)]
    simp only [List.length_append, List.length_cons, List.length_nil] at *
    omega
  · simp
/-- A row of bytes of the call's own, from block lo on. -/
def OwB (lo : Nat) (v : Value) (bs : List Int) (w : World) : Prop := w.ownsRow lo 5 1 v bs.length (bs.map (.int .u8))
theorem OwB.lt {lo : Nat} {v : Value} {bs : List Int} {w : World} (h : OwB lo v bs w) : ∀ g, v.ownBlock = some g → lo ≤ g ∧ g < w.heap.size := World.ownsRow.lt h
theorem OwB.kept {lo : Nat} {v : Value} {bs : List Int} {w w' : World} (h : OwB lo v bs w) (m : Mk0 w w') : OwB lo v bs w' := own_kept h m
theorem OwB.low {lo lo' : Nat} {v : Value} {bs : List Int} {w : World} (h : OwB lo v bs w) (hl : lo' ≤ lo) : OwB lo' v bs w := own_low h hl
theorem OwB.of {w w' : World} {R : List Int} {e : Ending} (h : OutB w R e w') : ∃ v, e = .returned v ∧ OwB w.heap.size v R w' ∧ Mk0 w w' := by
  obtain ⟨v, e, ho, hb⟩ := h
  exact ⟨v, e, ho, Mk.of_below hb⟩
theorem OwB.out {w w' : World} {R : List Int} {v : Value} (h : OwB w.heap.size v R w') (m : Mk0 w w') : OutB w R (.returned v) w' := ⟨v, rfl, h, m.below0⟩
theorem OwB.gro {lo : Nat} {v v' : Value} {bs : List Int} {w w' : World} (h : OwB lo v bs w) (g : Gro v v' w w') (hlo : lo ≤ w.heap.size) : Below lo w w' := g.below (fun q e => (h.lt q e).1) hlo
theorem OwB.gro0 {v v' : Value} {bs : List Int} {w0 w w' : World} (h : OwB w0.heap.size v bs w) (m : Mk0 w0 w) (g : Gro v v' w w') : Mk0 w0 w' := g.mk0 m (fun q e => (h.lt q e).1)
theorem addVarintB (v : Value) (n : Int) (lo : Nat) (bs : List Int) (w : World) (h : OwB lo v bs w) (hlo : lo ≤ w.heap.size) (hL : bs.length ≤ 1073741800) :
    Calls Try.prog 70 #[v, .int .i64 n] w fun e w' => ∃ v', e = .returned v' ∧ OwB lo v' (bs ++ vb n) w' ∧ Gro v v' w w' :=
  (addVarintG v n bs.length lo bs w h hlo hL).mono fun e w' ⟨v', h1, h2, h3⟩ => ⟨v', h1, by unfold OwB; rw [List.length_append]; exact h2, h3⟩
theorem OwB.slice {lo : Nat} {v : Value} {bs : List Int} {w : World} (h : OwB lo v bs w) : ∃ A L c, v = .slice A L c ∧ (A = none → c = 0) ∧ Has .u8 w w.heap.size A L bs ∧ Hid (L = bs.length) := by
  rcases h.2 with ⟨rfl, e0⟩ | ⟨g, cap, cur, rfl, _⟩
  · obtain rfl := List.eq_nil_of_length_eq_zero e0
    exact ⟨none, 0, 0, rfl, fun _ => rfl, Has.none_ _ _ _, rfl⟩
  · exact ⟨_, bs.length, cap, rfl, (fun h => by cases h), (ownsRow_own (k := .u8) (zs := bs) h).has, rfl⟩
theorem OwB.nil (w : World) : OwB w.heap.size (.slice (some ⟨w.heap.size, 0, none⟩) 0 0) [] (w.alloc (.cells #[] 5)) := own_empty w _
/-- append(v, s...) at a row of bytes. -/
theorem wpList_appB {w : World} {ops : Array Oper} {rest : List Oper} {o : Oper} {a : Act} {Q : Exit → Act → World → Prop} (hgd : o.guard = none) (s x : Operand)
    (ho : o.op = .call { callee := .builtin .append, args := #[s, x], argTypes := #[22, 22] })
    (lo : Nat) (v : Value) (zs : List Int) (hs : a.eval s = v) (hown : OwB lo v zs w)
    (A : Option Addr) (m c : Nat) (ns : List Int) (hx : a.eval x = .slice A m c) (hc0 : A = none → c = 0) (hr : Has .u8 w w.heap.size A m ns)
    (hmax : zs.length + m ≤ 1073741824) (hlo : lo ≤ w.heap.size)
    (h : ∀ v' w', OwB lo v' (zs ++ ns) w' → Gro v v' w w' → wpList Try.prog ops Q rest (a.put o.dst v') w') :
    wpList Try.prog ops Q (o :: rest) a w := by
  obtain ⟨i0, hi, hz0, hz1, hz2⟩ := info_parts infoU8
  exact wpList_app hgd s x 22 ho lo 5 i0 Try.underlying22 hi hz0 hz1 (by rw [hz2]; decide) v zs zs.length hs hown A m c ns hx hc0 hr hmax hlo (fun v' w' h1 h2 h3 => h v' w' (by unfold OwB; rw [List.length_append, hr.1]; exact h1) (Gro.of h2 h3))
end Go.Proofs.Ytpiilbcdiejjfaa
