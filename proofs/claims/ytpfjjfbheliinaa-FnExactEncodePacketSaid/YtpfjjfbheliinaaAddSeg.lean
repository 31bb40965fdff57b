
/- Encodings as lists; a row of bytes of the call's own. -/
import Derived.Test.YtpfjjfbheliinaaEnc
import Derived.Test.YtpfjjfbheliinaaStat
import Derived.Test.YtpfjjfbheliinaaEncable
import Derived.Test.YtpfjjfbheliinaaVarG
import Derived.Test.YtpfjjfbheliinaaBytesOps
import Derived.Test.YtpfjjfbheliinaaFields
import Derived.Test.YtpfjjfbheliinaaVHop
import Derived.Test.YtpfjjfbheliinaaWk
import Derived.Test.YtpfjjfbheliinaaByteR
import Derived.Deep.RegionHeld3
namespace Go.Proofs.Ytpfjjfbheliinaa
open Go.ChangeShapes Go.WideShapes Go.ChangeAt Go.RowKit
set_option linter.unusedVariables false

def encL (zs : List Int) : List Int := zs.flatMap vb
theorem encL_app (a b : List Int) : encL (a ++ b) = encL a ++ encL b := by simp [encL]
theorem encL_len (zs : List Int) : (encL zs).length ≤ 6 * zs.length := by
  induction zs with
  | nil => simp [encL]
  | cons z zs ih =>
    have := vb_len z
    have h : encL (z :: zs) = vb z ++ encL zs := rfl
    rw [h, List.length_append, List.length_cons]
    omega
theorem encN_take (zs : List Int) : ∀ k, k ≤ zs.length → encN zs k = encL (zs.take k)
  | 0, _ => rfl
  | k + 1, h => by
    have e : zs.take (k + 1) = zs.take k ++ [zs.getD k 0] := by
      rw [List.take_add_one, List.getD_eq_getElem?_getD, List.getElem?_eq_getElem (by omega)]
      rfl
    rw [encN, encN_take zs k (by omega), e, encL_app]
    simp [encL]
theorem encN_all (zs : List Int) (n : Nat) (h : n = zs.length) : encN zs n = encL zs := by
  subst h
  rw [encN_take zs _ (Nat.le_refl _), List.take_length]
def hopBytes (x : THop) : List Int := if hopOk x then encL (hopF x) else []
def hopsB (hs : List THop) : Nat → List Int
  | 0 => []
  | k + 1 => hopsB hs k ++ hopBytes (hs.getD k default)
theorem hopBytes_len (x : THop) : (hopBytes x).length ≤ 30 := by
  unfold hopBytes
  split
  · exact encL_len (hopF x)
  · simp
theorem hopsB_len (hs : List THop) : ∀ k, (hopsB hs k).length ≤ 30 * k
  | 0 => by simp [hopsB]
  | k + 1 => by
    have := hopsB_len hs k
    have := hopBytes_len (hs.getD k default)
    simp only [hopsB, List.length_append]
    omega
theorem hopsB_ok (hs : List THop) : ∀ k, okUp hs k = true → hopsB hs k = encL (hopsN hs k)
  | 0, _ => rfl
  | k + 1, h => by
    rw [okUp, Bool.and_eq_true] at h
    rw [hopsB, hopsN, encL_app, hopsB_ok hs k h.1, hopBytes, if_pos h.2]
def segBytes (x0 x1 : Int) (zs : List THop) (n : Nat) : List Int := if encB x0 x1 zs n then encL [x0, x1, (n : Int)] ++ hopsB zs n else []
theorem encB_le {x0 x1 : Int} {zs : List THop} {n : Nat} (h : encB x0 x1 zs n = true) : n ≤ 8 := by
  unfold encB at h
  split at h
  · omega
  · cases h
theorem segBytes_len (x0 x1 : Int) (zs : List THop) (n : Nat) : (segBytes x0 x1 zs n).length ≤ 258 := by
  unfold segBytes
  split
  · next h =>
    have := encB_le h
    have := hopsB_len zs n
    have := encL_len [x0, x1, (n : Int)]
    simp only [List.length_append, List.length_cons, List.length_nil] at *
    omega
  · simp
/-- A row of bytes of the call's own, from block lo on. -/
def OwB (lo : Nat) (v : Value) (bs : List Int) (w : World) : Prop := w.ownsRow lo 5 1 v bs.length (bs.map (.int .u8))
theorem OwB.lt {lo : Nat} {v : Value} {bs : List Int} {w : World} (h : OwB lo v bs w) : ∀ g, v.ownBlock = some g → lo ≤ g ∧ g < w.heap.size := World.ownsRow.lt h
theorem OwB.kept {lo : Nat} {v : Value} {bs : List Int} {w w' : World} (h : OwB lo v bs w) (m : Mk0 w w') : OwB lo v bs w' := own_kept h m
theorem OwB.low {lo lo' : Nat} {v : Value} {bs : List Int} {w : World} (h : OwB lo v bs w) (hl : lo' ≤ lo) : OwB lo' v bs w := own_low h hl
theorem OwB.of {w w' : World} {R : List Int} {e : Ending} (h : OutB w R e w') : ∃ v, e = .returned v ∧ OwB w.heap.size v R w' ∧ Mk0 w w' := by
  obtain ⟨v, e, ho, hb⟩ := h
  exact ⟨v, e, ho, Mk.of_below hb⟩
theorem OwB.out {w w' : World} {R : List Int} {v : Value} (h : OwB w.heap.size v R w') (m : Mk0 w w') : OutB w R (.returned v) w' := ⟨v, rfl, h, m.below0⟩
theorem OwB.gro {lo : Nat} {v v' : Value} {bs : List Int} {w w' : World} (h : OwB lo v bs w) (g : Gro v v' w w') (hlo : lo ≤ w.heap.size) : Below lo w w' := g.below (fun q e => (h.lt q e).1) hlo
theorem OwB.gro0 {v v' : Value} {bs : List Int} {w0 w w' : World} (h : OwB w0.heap.size v bs w) (m : Mk0 w0 w) (g : Gro v v' w w') : Mk0 w0 w' := g.mk0 m (fun q e => (h.lt q e).1)
theorem addVarintB (v : Value) (n : Int) (lo : Nat) (bs : List Int) (w : World) (h : OwB lo v bs w) (hlo : lo ≤ w.heap.size) (hL : bs.length ≤ 1073741800) :
    Calls Try.prog 151 #[v, .int .i64 n] w fun e w' => ∃ v', e = .returned v' ∧ OwB lo v' (bs ++ vb n) w' ∧ Gro v v' w w' :=
  (addVarintG v n bs.length lo bs w h hlo hL).mono fun e w' ⟨v', h1, h2, h3⟩ => ⟨v', h1, by unfold OwB; rw [List.length_append]; exact h2, h3⟩
theorem OwB.slice {lo : Nat} {v : Value} {bs : List Int} {w : World} (h : OwB lo v bs w) : ∃ A L c, v = .slice A L c ∧ (A = none → c = 0) ∧ Has .u8 w w.heap.size A L bs ∧ Hid (L = bs.length) := by
  rcases h.2 with ⟨rfl, e0⟩ | ⟨g, cap, cur, rfl, _⟩
  · obtain rfl := List.eq_nil_of_length_eq_zero e0
    exact ⟨none, 0, 0, rfl, fun _ => rfl, Has.none_ _ _ _, rfl⟩
  · exact ⟨_, bs.length, cap, rfl, (fun h => by cases h), (ownsRow_own (k := .u8) (zs := bs) h).has, rfl⟩
theorem OwB.nil (w : World) : OwB w.heap.size (.slice (some ⟨w.heap.size, 0, none⟩) 0 0) [] (w.alloc (.cells #[] 5)) := own_empty w _
/-- append(v, s...) at a row of bytes. -/
theorem wpList_appB {w : World} {ops : Array Oper} {rest : List Oper} {o : Oper} {a : Act} {Q : Exit → Act → World → Prop} (hgd : o.guard = none) (s x : Operand)
    (ho : o.op = .call { callee := .builtin .append, args := #[s, x], argTypes := #[63, 63] })
    (lo : Nat) (v : Value) (zs : List Int) (hs : a.eval s = v) (hown : OwB lo v zs w)
    (A : Option Addr) (m c : Nat) (ns : List Int) (hx : a.eval x = .slice A m c) (hc0 : A = none → c = 0) (hr : Has .u8 w w.heap.size A m ns)
    (hmax : zs.length + m ≤ 1073741824) (hlo : lo ≤ w.heap.size)
    (h : ∀ v' w', OwB lo v' (zs ++ ns) w' → Gro v v' w w' → wpList Try.prog ops Q rest (a.put o.dst v') w') :
    wpList Try.prog ops Q (o :: rest) a w := by
  obtain ⟨i0, hi, hz0, hz1, hz2⟩ := info_parts infoU8
  exact wpList_app hgd s x 63 ho lo 5 i0 Try.underlying63 hi hz0 hz1 (by rw [hz2]; decide) v zs zs.length hs hown A m c ns hx hc0 hr hmax hlo (fun v' w' h1 h2 h3 => h v' w' (by unfold OwB; rw [List.length_append, hr.1]; exact h1) (Gro.of h2 h3))
end Go.Proofs.Ytpfjjfbheliinaa
namespace Go.Proofs.Ytpfjjfbheliinaa
open Go.ChangeShapes Go.WideShapes Go.ChangeAt Go.RowKit
set_option linter.unusedVariables false
set_option maxRecDepth 100000 in
set_option maxHeartbeats 4000000 in
theorem implAddHop (x : THop) (v : Value) (lo : Nat) (bs : List Int) (w : World) (hown : OwB lo v bs w) (hlo : lo ≤ w.heap.size) (hL : bs.length ≤ 1073741700) :
    Calls Try.prog 153 #[v, .agg #[.int .i64 x.nd, .int .i64 x.ing, .int .i64 x.eg, .int .i64 x.exp, .int .i64 x.mac]] w fun e w' => ∃ v', e = .returned v' ∧ OwB lo v' (bs ++ hopBytes x) w' ∧ Gro v v' w w' := by
  have M0 := Mk.alloc w (Obj.cells #[Value.int .i64 x.nd, Value.int .i64 x.ing, Value.int .i64 x.eg, Value.int .i64 x.exp, Value.int .i64 x.mac] 145)
  cases hv : hopOk x with
  | false =>
    have hr : hopBytes x = [] := by simp [hopBytes, hv]
    rw [hr]
    have V : ∀ W, Calls Try.prog 178 #[.agg #[.int .i64 x.nd, .int .i64 x.ing, .int .i64 x.eg, .int .i64 x.exp, .int .i64 x.mac]] W fun en w' => en = .returned (.bool false) ∧ Mk0 W w' := fun W => ((implVHop x.nd x.ing x.eg x.exp x.mac W).mono fun e w' h => by have hv' : hopOk ⟨x.nd, x.ing, x.eg, x.exp, x.mac⟩ = false := hv; rw [hv'] at h; exact h)
    clear hr hv
    have HO := Lib.hid hown
    clear hown
    go_enter Try.func153, Try.ntmps153
    go_wp2_with fail
    refine (V _).mono ?_
    rintro e w1 ⟨rfl, m1⟩
    go_wp2_with fail
    go_ret
    exact ⟨v, rfl, by rw [List.append_nil]; exact HO.out.kept (M0.trans m1), Gro.of0 (M0.trans m1) v⟩
  | true =>
    have hr : hopBytes x = encL (hopF x) := by simp [hopBytes, hv]
    rw [hr]
    have V : ∀ W, Calls Try.prog 178 #[.agg #[.int .i64 x.nd, .int .i64 x.ing, .int .i64 x.eg, .int .i64 x.exp, .int .i64 x.mac]] W fun en w' => en = .returned (.bool true) ∧ Mk0 W w' := fun W => ((implVHop x.nd x.ing x.eg x.exp x.mac W).mono fun e w' h => by have hv' : hopOk ⟨x.nd, x.ing, x.eg, x.exp, x.mac⟩ = true := hv; rw [hv'] at h; exact h)
    clear hr hv
    have HE := Lib.hid (encN_take (hopF x))
    have HO := Lib.hid hown
    clear hown
    have k0 : (w.alloc (Obj.cells #[Value.int .i64 x.nd, Value.int .i64 x.ing, Value.int .i64 x.eg, Value.int .i64 x.exp, Value.int .i64 x.mac] 145)).cell? ⟨w.heap.size, 0, none⟩ = some (.int .i64 x.nd) := by simp [go_sem]
    have k1 : (w.alloc (Obj.cells #[Value.int .i64 x.nd, Value.int .i64 x.ing, Value.int .i64 x.eg, Value.int .i64 x.exp, Value.int .i64 x.mac] 145)).cell? ⟨w.heap.size, 1, none⟩ = some (.int .i64 x.ing) := by simp [go_sem]
    have k2 : (w.alloc (Obj.cells #[Value.int .i64 x.nd, Value.int .i64 x.ing, Value.int .i64 x.eg, Value.int .i64 x.exp, Value.int .i64 x.mac] 145)).cell? ⟨w.heap.size, 2, none⟩ = some (.int .i64 x.eg) := by simp [go_sem]
    have k3 : (w.alloc (Obj.cells #[Value.int .i64 x.nd, Value.int .i64 x.ing, Value.int .i64 x.eg, Value.int .i64 x.exp, Value.int .i64 x.mac] 145)).cell? ⟨w.heap.size, 3, none⟩ = some (.int .i64 x.exp) := by simp [go_sem]
    have k4 : (w.alloc (Obj.cells #[Value.int .i64 x.nd, Value.int .i64 x.ing, Value.int .i64 x.eg, Value.int .i64 x.exp, Value.int .i64 x.mac] 145)).cell? ⟨w.heap.size, 4, none⟩ = some (.int .i64 x.mac) := by simp [go_sem]
    go_enter Try.func153, Try.ntmps153
    go_wp2_with fail
    refine (V _).mono ?_
    rintro e w1 ⟨rfl, m1⟩
    replace k0 := m1.cellAt k0
    replace k1 := m1.cellAt k1
    replace k2 := m1.cellAt k2
    replace k3 := m1.cellAt k3
    replace k4 := m1.cellAt k4
    have M1 := M0.trans m1
    go_wp2_with fail
    refine (hopFieldsO x _).mono ?_
    rintro e w2 ⟨A, c, rfl, hc, hA, m2⟩
    have oR := hA.toR (hi := w2.heap.size) (Nat.le_refl _)
    have M2 := M1.trans m2
    have hz := M2.size
    have hz1 := M1.size
    have OB : OwB lo v bs w2 := HO.out.kept M2
    clear k0 k1 k2 k3 k4 hA
    have hlt0 : ∀ q, v.ownBlock = some q → q < w1.heap.size ∨ w2.heap.size ≤ q := fun q e => .inl (by have := (HO.out.lt q e).2; omega)
    have HT := Lib.hid hlt0
    clear hlt0
    go_wp2_with fail
    go_loopw [0, 14] (fun u i wr => ∃ k : Nat, k ≤ 5 ∧ i = .int .i64 k ∧ OwB lo u (bs ++ encN (hopF x) k) wr ∧ Gro v u w2 wr) (fun _ i _ => 5 - (intOf i).toNat)
    case atStart => exact ⟨0, Nat.zero_le _, rfl, by simpa [encN] using OB, Gro.refl _ _⟩
    case round =>
      clear OB
      obtain ⟨k, hk, rfl, ho, hG⟩ := hrel
      have hzr := hG.size
      by_cases hlt : k < 5
      · have oR' := hG.row oR HT.out (Nat.le_refl _)
        obtain ⟨b, off, z, rfl, hbs, hz', hcell⟩ := (hasR_int.1 oR'.has).at_ hlt
        have hen := encN_len (hopF x) k
        have hlen : (bs ++ encN (hopF x) k).length ≤ 1073741800 := by rw [List.length_append]; omega
        have hstep : bs ++ encN (hopF x) (k + 1) = (bs ++ encN (hopF x) k) ++ vb z := by rw [hz'.out, List.append_assoc]; rfl
        have HS := Lib.hid hstep
        clear hstep hen oR'
        go_wp2_with fail
        refine (addVarintB _ _ lo _ _ ho (by omega) hlen).mono ?_
        rintro e w3 ⟨u', rfl, ho2, g2⟩
        go_wp2_with fail
        go_roundw
        case rel => exact ⟨k + 1, by omega, by go_num, by rw [HS.out]; exact ho2, hG.trans g2⟩
        case measure => simp [intOf]; omega
      · obtain rfl : k = 5 := by omega
        go_wp2
        go_ret
        exact ⟨_, rfl, by rw [show encL (hopF x) = encN (hopF x) 5 from ((HE.out 5 (by simp [hopF])).trans (by rfl)).symm]; exact ho, (Gro.of0 M2 v).trans hG⟩
end Go.Proofs.Ytpfjjfbheliinaa
namespace Go.Proofs.Ytpfjjfbheliinaa
open Go.ChangeShapes Go.WideShapes Go.ChangeAt Go.RowKit
set_option linter.unusedVariables false
end Go.Proofs.Ytpfjjfbheliinaa
