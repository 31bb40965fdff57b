
/- Segment: rows of one's own by content. -/
import Derived.Test.YtdlafigjkefllaaOwnN
import Derived.Test.YtdlafigjkefllaaNSegment
import Derived.Test.YtdlafigjkefllaaOwnP
namespace Go.Proofs.Ytdlafigjkefllaa
open Go.ChangeShapes Go.WideShapes Go.ChangeAt Go.RowKit
set_option linter.unusedVariables false
structure HSegment where (ts : Int) (beta : Int) (a : Option Addr) (n : Nat) (c : Nat)
instance : Inhabited HSegment := ⟨⟨0, 0, none, 0, 0⟩⟩
def HSegment.cell (g : HSegment) : Nat → Value
  | 0 => .int .i64 g.ts
  | 1 => .int .i64 g.beta
  | _ => .slice g.a g.n g.c
def WSegment : Kd HSegment TSegment where
  nc := 3
  pos := by decide
  cell := HSegment.cell
  kid := fun w lo hi g x => g.ts = x.ts ∧ g.beta = x.beta ∧ OwnHop w lo hi g.a g.n x.hops ∧ g.n ≤ g.c ∧ g.c ≤ 9223372036854775807 ∧ (g.a = none → g.c = 0)
  kid_mk := by
    intro lo hi lo' hi' w w' g x h m hB hr
    obtain ⟨e0, e1, o, p1, p2, p3⟩ := h
    exact ⟨e0, e1, o.mk m hB hr, p1, p2, p3⟩
  kid_set := by
    intro lo hi w g x h p u hp
    obtain ⟨e0, e1, o, p1, p2, p3⟩ := h
    exact ⟨e0, e1, o.set p u hp, p1, p2, p3⟩
  kid_wide := by
    intro lo hi lo' hi' w g x h hl hh
    obtain ⟨e0, e1, o, p1, p2, p3⟩ := h
    exact ⟨e0, e1, o.wide hl hh, p1, p2, p3⟩
/-- The numbers that an element holds. -/
def totSegment (x : TSegment) : Nat := 2 + 5 * x.hops.length
def mkeSegment (k : Int) (x : TSegment) : TSegment := ⟨k, k + 1, mklHop (k + 2) x.hops.length⟩
def mkSegment (k : Int) (zs : List TSegment) (n : Nat) : List TSegment := (List.range n).map fun i => mkeSegment (k + ((sumTo totSegment zs i : Nat) : Int)) (zs.getD i default)
theorem mkSegment_len (k : Int) (zs : List TSegment) (n : Nat) : (mkSegment k zs n).length = n := by simp [mkSegment]
theorem mkSegment_at (k : Int) (zs : List TSegment) {n i : Nat} (h : i < n) : (mkSegment k zs n).getD i default = mkeSegment (k + ((sumTo totSegment zs i : Nat) : Int)) (zs.getD i default) := getD_map_range h
theorem OwnN.hasSegment {w : World} {lo hi n : Nat} {a : Option Addr} {ts : List TSegment} (h : OwnN WSegment w lo hi a n ts) : HasSegment w hi a n ts := by
  obtain ⟨hl, gs, b, ho, hb, l, r, hap, hk⟩ := h
  refine ⟨hl, fun hn => ?_⟩
  obtain ⟨b', off, rfl, hb1, hb2, hc⟩ := ho.2 hn
  have hbb := hb hn
  refine ⟨b', off, rfl, by omega, fun i hi => ?_⟩
  obtain ⟨g1, g2, g3, g4, e0, e1, o, p1, p2, p3⟩ := hk i hi
  have c0 := (hc (i * 3 + 0) (flat_le (nc := 3) hi (by decide))).1
  rw [show flat WSegment.nc WSegment.cell gs (i * 3 + 0) = HSegment.cell (gs.getD i default) 0 from flat_at _ i 0 (by decide)] at c0
  have c1 := (hc (i * 3 + 1) (flat_le (nc := 3) hi (by decide))).1
  rw [show flat WSegment.nc WSegment.cell gs (i * 3 + 1) = HSegment.cell (gs.getD i default) 1 from flat_at _ i 1 (by decide)] at c1
  rw [← Nat.add_assoc] at c1
  have c2 := (hc (i * 3 + 2) (flat_le (nc := 3) hi (by decide))).1
  rw [show flat WSegment.nc WSegment.cell gs (i * 3 + 2) = HSegment.cell (gs.getD i default) 2 from flat_at _ i 2 (by decide)] at c2
  rw [← Nat.add_assoc] at c2
  generalize gs.getD i default = g at *
  refine ⟨g.a, g.n, g.c, (e0 ▸ c0), (e1 ▸ c1), c2, (o.has).mono (by omega), p1, p2, p3⟩
def mhSegment (gs : List HSegment) (zs : List TSegment) (kz : Int) (k n : Nat) : List HSegment := (List.range n).map fun i => if i < k then ⟨kz + ((sumTo totSegment zs i : Nat) : Int), kz + ((sumTo totSegment zs i : Nat) : Int) + 1, (gs.getD i default).a, (gs.getD i default).n, (gs.getD i default).c⟩ else gs.getD i default
def mzSegment (zs : List TSegment) (kz : Int) (k n : Nat) : List TSegment := (List.range n).map fun i => if i < k then mkeSegment (kz + ((sumTo totSegment zs i : Nat) : Int)) (zs.getD i default) else zs.getD i default
theorem mhSegment_at (gs : List HSegment) (zs : List TSegment) (kz : Int) (k : Nat) {n i : Nat} (h : i < n) : (mhSegment gs zs kz k n).getD i default = if i < k then ⟨kz + ((sumTo totSegment zs i : Nat) : Int), kz + ((sumTo totSegment zs i : Nat) : Int) + 1, (gs.getD i default).a, (gs.getD i default).n, (gs.getD i default).c⟩ else gs.getD i default := getD_map_range h
theorem mzSegment_at (zs : List TSegment) (kz : Int) (k : Nat) {n i : Nat} (h : i < n) : (mzSegment zs kz k n).getD i default = if i < k then mkeSegment (kz + ((sumTo totSegment zs i : Nat) : Int)) (zs.getD i default) else zs.getD i default := getD_map_range h
structure StSegment (gs : List HSegment) (zs : List TSegment) (kz : Int) (n b off : Nat) (l r : Nat → Nat) (k : Nat) (w : World) : Prop where
  cl : Cl w b off (n * 3) (flat 3 HSegment.cell (mhSegment gs zs kz k n))
  kid : ∀ i, i < n → WSegment.kid w (l i) (r i) ((mhSegment gs zs kz k n).getD i default) ((mzSegment zs kz k n).getD i default)
theorem StSegment.start {gs : List HSegment} {zs : List TSegment} {n b off : Nat} {l r : Nat → Nat} {w : World} (kz : Int) (hc : Cl w b off (n * 3) (flat 3 HSegment.cell gs)) (hk : ∀ i, i < n → WSegment.kid w (l i) (r i) (gs.getD i default) (zs.getD i default)) : StSegment gs zs kz n b off l r 0 w := by
  refine ⟨hc.congr (flat_congr (by decide) fun i hi q hq => ?_), fun i hi => ?_⟩
  · rw [flat_at _ i q hq, mhSegment_at gs zs kz 0 hi, if_neg (by omega)]
  · rw [mhSegment_at gs zs kz 0 hi, mzSegment_at zs kz 0 hi, if_neg (by omega), if_neg (by omega)]
    exact hk i hi
theorem StSegment.next {gs : List HSegment} {zs : List TSegment} {kz : Int} {n b off : Nat} {l r : Nat → Nat} {k : Nat} {w w' : World} (h : StSegment gs zs kz n b off l r k w) (hlt : k < n) (hap : Apart l r n) (hq : ∀ i, i < n → b < l i ∨ r i ≤ b) (hr : ∀ i, i < n → r i ≤ w.heap.size)
    (m : Mk (l k) (r k) ((w.setCell ⟨b, off + k * 3, none⟩ (.int .i64 (kz + ((sumTo totSegment zs k : Nat) : Int)))).setCell ⟨b, off + k * 3 + 1, none⟩ (.int .i64 (kz + ((sumTo totSegment zs k : Nat) : Int) + 1))) w') (ho : OwnHop w' (l k) (r k) (gs.getD k default).a (gs.getD k default).n (mkeSegment (kz + ((sumTo totSegment zs k : Nat) : Int)) (zs.getD k default)).hops) : StSegment gs zs kz n b off l r (k + 1) w' := by
  have hz : ((w.setCell ⟨b, off + k * 3, none⟩ (.int .i64 (kz + ((sumTo totSegment zs k : Nat) : Int)))).setCell ⟨b, off + k * 3 + 1, none⟩ (.int .i64 (kz + ((sumTo totSegment zs k : Nat) : Int) + 1))).heap.size = w.heap.size := by simp only [World.size_set]
  have hC := ((h.cl.put (o := off + k * 3) (q := k * 3 + 0) (.int .i64 (kz + ((sumTo totSegment zs k : Nat) : Int))) (by omega)).put (o := off + k * 3 + 1) (q := k * 3 + 1) (.int .i64 (kz + ((sumTo totSegment zs k : Nat) : Int) + 1)) (by omega))
  refine ⟨(hC.mk m (hq k hlt)).congr (flat_congr (by decide) fun i hi q hq' => ?_), fun i hi => ?_⟩
  · rw [mhSegment_at gs zs kz (k + 1) hi]
    have hf : flat 3 HSegment.cell (mhSegment gs zs kz k n) (i * 3 + q) = HSegment.cell ((mhSegment gs zs kz k n).getD i default) q := flat_at _ i q hq'
    rw [mhSegment_at gs zs kz k hi] at hf
    by_cases e : i = k
    · subst e
      rw [if_pos (show i < i + 1 by omega)]
      rw [if_neg (show ¬ i < i by omega)] at hf
      match q, hq' with
      | 0, _ => rw [if_neg (show ¬ (i * 3 + 0 = i * 3 + 1) by omega)]; rw [if_pos rfl]; rfl
      | 1, _ => rw [if_pos rfl]; rfl
      | 2, _ => rw [if_neg (show ¬ (i * 3 + 2 = i * 3 + 1) by omega)]; rw [if_neg (show ¬ (i * 3 + 2 = i * 3 + 0) by omega)]; rw [hf]; rfl
    · rw [if_neg (show ¬ (i * 3 + q = k * 3 + 1) by omega)]; rw [if_neg (show ¬ (i * 3 + q = k * 3 + 0) by omega)]; rw [hf]
      by_cases e2 : i < k
      · rw [if_pos e2, if_pos (show i < k + 1 by omega)]
      · rw [if_neg e2, if_neg (show ¬ i < k + 1 by omega)]
  · rw [mhSegment_at gs zs kz (k + 1) hi, mzSegment_at zs kz (k + 1) hi]
    have hk1 := (WSegment.kid_set (WSegment.kid_set (h.kid i hi) ⟨b, off + k * 3, none⟩ (.int .i64 (kz + ((sumTo totSegment zs k : Nat) : Int))) (hq i hi)) ⟨b, off + k * 3 + 1, none⟩ (.int .i64 (kz + ((sumTo totSegment zs k : Nat) : Int) + 1)) (hq i hi))
    rw [mhSegment_at gs zs kz k hi, mzSegment_at zs kz k hi] at hk1
    by_cases e : i = k
    · subst e
      rw [if_pos (show i < i + 1 by omega), if_pos (show i < i + 1 by omega)]
      rw [if_neg (show ¬ i < i by omega), if_neg (show ¬ i < i by omega)] at hk1
      obtain ⟨e0, e1, o, p1, p2, p3⟩ := hk1
      exact ⟨rfl, rfl, ho, p1, p2, p3⟩
    · have hk2 := WSegment.kid_mk hk1 m (by rw [hz]; exact hr i hi) (by have := hap i k hi hlt e; omega)
      by_cases e2 : i < k
      · rw [if_pos e2, if_pos e2] at hk2
        rw [if_pos (show i < k + 1 by omega), if_pos (show i < k + 1 by omega)]
        exact hk2
      · rw [if_neg e2, if_neg e2] at hk2
        rw [if_neg (show ¬ i < k + 1 by omega), if_neg (show ¬ i < k + 1 by omega)]
        exact hk2
set_option maxRecDepth 100000 in
set_option maxHeartbeats 4000000 in
theorem markSegmentW (a : Option Addr) (n c lo hi : Nat) (kz : Int) (zs : List TSegment) (w : World) (h : OwnN WSegment w lo hi a n zs) (hn : n ≤ 2097152) (ht : sumTo totSegment zs n ≤ 10485760) (h0 : 0 ≤ kz) (h1 : kz ≤ 1073741824) (hh : hi ≤ w.heap.size) :
    Calls Try.prog 21 #[.slice a n c, .int .i64 kz] w fun e w' => e = .returned (.int .i64 (kz + ((sumTo totSegment zs n : Nat) : Int))) ∧ OwnN WSegment w' lo hi a n (mkSegment kz zs n) ∧ Mk lo hi w w' := by
  by_cases hz : n = 0
  · subst hz
    go_enter Try.func21, Try.ntmps21
    go_wp2
    refine wp_loop_rounds 1 ?_; rw [rounds_succ]
    go_wp2
    go_ret
    exact ⟨by simp [sumTo], OwnN.none_ _ _ _ _ _, Mk.refl _ _ _⟩
  · obtain ⟨hlen, gs, b, ho, hb, l, r, hap, hk⟩ := h
    obtain ⟨b', off, rfl, hb1, hb2, _⟩ := ho.2 (by omega)
    obtain rfl : b = b' := by omega
    obtain ⟨hlb, hbh⟩ := hb (by omega)
    have hAP := Lib.hid hap
    have hRG := Lib.hid (show ∀ i, i < n → lo ≤ l i ∧ l i ≤ r i ∧ r i ≤ hi ∧ (b < l i ∨ r i ≤ b) from fun i hi => ⟨(hk i hi).1, (hk i hi).2.1, (hk i hi).2.2.1, (hk i hi).2.2.2.1 b ⟨by omega, rfl⟩⟩)
    have hS := StSegment.start (l := l) (r := r) kz (ho.cl (by omega)) (fun i hi => (hk i hi).2.2.2.2)
    have HT := Lib.hid ht
    clear hk hap ho hb ht
    go_enter Try.func21, Try.ntmps21
    go_wp2
    go_loopw [1, 5] (fun q i wr => ∃ k : Nat, k ≤ n ∧ i = .int .i64 k ∧ q = .int .i64 (kz + ((sumTo totSegment zs k : Nat) : Int)) ∧ Hid (StSegment gs zs kz n b off l r k wr) ∧ Mk lo hi w wr) (fun _ i _ => n - (intOf i).toNat)
    case atStart => exact ⟨0, Nat.zero_le _, rfl, by simp [sumTo], hS, Mk.refl _ _ _⟩
    case round =>
      clear hS
      obtain ⟨k, hk, rfl, rfl, hS, hM⟩ := hrel
      have hs1 := sumTo_le totSegment zs hk
      obtain ⟨V, hV⟩ : ∃ V, Hid (V = sumTo totSegment zs k) := ⟨_, Lib.hid rfl⟩
      have hVb : V ≤ 10485760 := by rw [hV.out]; exact Nat.le_trans hs1 HT.out
      clear hs1
      rw [← hV.out]
      by_cases hlt : k < n
      · have hT := sumTo_at totSegment zs hlt
        rw [← hV.out] at hT
        have hC := hS.out.cl
        have hK := hS.out.kid k hlt
        rw [mhSegment_at gs zs kz k hlt, mzSegment_at zs kz k hlt, if_neg (by omega), if_neg (by omega)] at hK
        have c0 := hC (k * 3 + 0) (flat_le (nc := 3) hlt (by decide))
        rw [flat_at _ k 0 (by decide), mhSegment_at gs zs kz k hlt, if_neg (by omega)] at c0
        rw [Nat.add_zero] at c0
        have c1 := hC (k * 3 + 1) (flat_le (nc := 3) hlt (by decide))
        rw [flat_at _ k 1 (by decide), mhSegment_at gs zs kz k hlt, if_neg (by omega)] at c1
        rw [← Nat.add_assoc] at c1
        have c2 := hC (k * 3 + 2) (flat_le (nc := 3) hlt (by decide))
        rw [flat_at _ k 2 (by decide), mhSegment_at gs zs kz k hlt, if_neg (by omega)] at c2
        rw [← Nat.add_assoc] at c2
        obtain ⟨G, hG⟩ : ∃ G, Hid (G = gs.getD k default) := ⟨_, Lib.hid rfl⟩
        obtain ⟨X, hX⟩ : ∃ X, Hid (X = zs.getD k default) := ⟨_, Lib.hid rfl⟩
        rw [← hG.out, ← hX.out] at hK
        rw [← hX.out] at hT
        rw [← hG.out] at c0
        obtain ⟨d0, f0⟩ := c0
        rw [← hG.out] at c1
        obtain ⟨d1, f1⟩ := c1
        rw [← hG.out] at c2
        obtain ⟨d2, f2⟩ := c2
        replace d2 : wr.cell? ⟨b, off + k * 3 + 2, none⟩ = some (.slice G.a G.n G.c) := d2
        obtain ⟨e0, e1, OK, P1, P2, P3⟩ := hK
        have hOl := OK.1
        have hVs := Lib.hid (show sumTo totSegment zs (k + 1) = V + totSegment X by rw [sumTo, ← hV.out, hX.out])
        have hTT := Lib.hid (show totSegment X = 2 + 5 * X.hops.length from rfl)
        rw [hTT.out] at hT
        have hTb := Nat.le_trans hT HT.out
        clear hT
        have hRk := hRG.out k hlt
        have HE := Lib.hid (show kz + ((sumTo totSegment zs k : Nat) : Int) = kz + (V : Int) by rw [hV.out])
        have hkn : k + 1 ≤ n := by omega
        have hO3 := ((OK.set ⟨b, off + k * 3, none⟩ (.int .i64 (kz + (V : Int))) hRk.2.2.2).set ⟨b, off + k * 3 + 1, none⟩ (.int .i64 (kz + (V : Int) + 1)) hRk.2.2.2)
        have hMM := ((hM.putR ⟨b, off + k * 3, none⟩ (.int .i64 (kz + (V : Int))) hlb hbh).putR ⟨b, off + k * 3 + 1, none⟩ (.int .i64 (kz + (V : Int) + 1)) hlb hbh)
        have hz3 : ((wr.setCell ⟨b, off + k * 3, none⟩ (.int .i64 (kz + (V : Int)))).setCell ⟨b, off + k * 3 + 1, none⟩ (.int .i64 (kz + (V : Int) + 1))).heap.size = wr.heap.size := by simp only [World.size_set]
        have hsz := hM.size
        go_wp2_with fail
        refine (markHopM G.a G.n G.c (l k) (r k) (kz + (V : Int) + 1 + 1) X.hops _ hO3 (by omega) (by omega) (by omega)).mono ?_
        rintro e w2 ⟨rfl, ho2, m2⟩
        have hM2 := hMM.trans (m2.wide (.inr ⟨hRk.1, hRk.2.2.1⟩))
        have hm2 : Mk (l k) (r k) ((wr.setCell ⟨b, off + k * 3, none⟩ (.int .i64 (kz + ((sumTo totSegment zs k : Nat) : Int)))).setCell ⟨b, off + k * 3 + 1, none⟩ (.int .i64 (kz + ((sumTo totSegment zs k : Nat) : Int) + 1))) w2 := by
          rw [HE.out]
          exact m2
        have ho3 : OwnHop w2 (l k) (r k) (gs.getD k default).a (gs.getD k default).n (mkeSegment (kz + ((sumTo totSegment zs k : Nat) : Int)) (zs.getD k default)).hops := by
          rw [← hG.out, ← hX.out, HE.out]
          show OwnHop w2 (l k) (r k) G.a G.n (mklHop (kz + (V : Int) + 2) X.hops.length)
          rw [hOl]
          rw [show kz + (V : Int) + 2 = kz + (V : Int) + 1 + 1 by omega]
          exact ho2
        have hS2 := Lib.hid (hS.out.next hlt hAP.out (fun i hi => (hRG.out i hi).2.2.2) (fun i hi => by have := (hRG.out i hi).2.2.1; omega) hm2 ho3)
        clear hm2 ho3 ho2
        go_wp2_with fail
        go_roundw
        case rel => exact ⟨k + 1, hkn, by go_num, congrArg (Value.int .i64) (by rw [hVs.out, hTT.out, hOl]; omega), hS2, hM2⟩
        case measure => simp [intOf]; omega
      · obtain rfl : k = n := by omega
        have hfin : OwnN WSegment wr lo hi (some ⟨b, off, none⟩) k (mkSegment kz zs k) := by
          refine OwnN.of_own (gs := mhSegment gs zs kz k k) (OwnR.of_cl (nc := 3) (cell := HSegment.cell) (by simp [mhSegment]) hS.out.cl) ⟨hlb, hbh⟩ ⟨l, r, hAP.out, fun i hi => ?_⟩ (mkSegment_len _ _ _)
          obtain ⟨g1, g2, g3, g4⟩ := hRG.out i hi
          refine ⟨g1, g2, g3, fun q hq => by subst hq; exact g4, ?_⟩
          have := hS.out.kid i hi
          rw [mkSegment_at _ _ hi]
          rwa [mzSegment_at zs kz k hi, if_pos hi] at this
        go_wp2_with fail
        go_ret
        exact ⟨retI (by rw [hV.out]), hfin, hM⟩
set_option maxRecDepth 100000 in
set_option maxHeartbeats 4000000 in
theorem heldSegmentW (a : Option Addr) (n c B : Nat) (kz : Int) (zs : List TSegment) (w : World) (h : HasSegment w B a n (mkSegment kz zs n)) (hn : n ≤ 2097152) (ht : sumTo totSegment zs n ≤ 10485760) (h0 : 0 ≤ kz) (h1 : kz ≤ 1073741824) :
    Calls Try.prog 22 #[.slice a n c, .int .i64 kz] w fun e w' => e = .returned (.int .i64 (kz + ((sumTo totSegment zs n : Nat) : Int))) ∧ w = w' := by
  have HT := Lib.hid ht
  clear ht
  go_enter Try.func22, Try.ntmps22
  go_wp2
  go_loop [1, 4, 5] (fun q rr i => rr = .int .i64 0 ∧ ∃ k : Nat, k ≤ n ∧ i = .int .i64 k ∧ q = .int .i64 (kz + ((sumTo totSegment zs k : Nat) : Int))) (fun _ _ i => n - (intOf i).toNat)
  case atStart => exact ⟨rfl, 0, Nat.zero_le _, rfl, by simp [sumTo]⟩
  case round =>
    obtain ⟨rfl, k, hk, rfl, rfl⟩ := hrel
    have hs1 := sumTo_le totSegment zs hk
    obtain ⟨V, hV⟩ : ∃ V, Hid (V = sumTo totSegment zs k) := ⟨_, Lib.hid rfl⟩
    have hVb : V ≤ 10485760 := by rw [hV.out]; exact Nat.le_trans hs1 HT.out
    clear hs1
    rw [← hV.out]
    by_cases hlt : k < n
    · have hT := sumTo_at totSegment zs hlt
      rw [← hV.out] at hT
      obtain ⟨b, off, x, rfl, hb, hx, a3, n3, c3, d0, d1, d2, hr, p1, p2, p3⟩ := HasSegment.at _ _ _ _ _ _ h hlt
      obtain ⟨X, hX⟩ : ∃ X, Hid (X = zs.getD k default) := ⟨_, Lib.hid rfl⟩
      rw [← hX.out] at hT
      obtain rfl := hx.out.trans (mkSegment_at kz zs hlt)
      rw [← hX.out, ← hV.out] at d0 d1 hr
      simp only [mkeSegment] at d0 d1 hr
      have hVs := Lib.hid (show sumTo totSegment zs (k + 1) = V + totSegment X by rw [sumTo, ← hV.out, hX.out])
      have hTT := Lib.hid (show totSegment X = 2 + 5 * X.hops.length from rfl)
      rw [hTT.out] at hT
      have hTb := Nat.le_trans hT HT.out
      clear hT
      have hOl : (mklHop (kz + (V : Int) + 2) X.hops.length).length = n3 := hr.1
      rw [mklHop_len] at hOl
      rw [show kz + (V : Int) + 2 = kz + (V : Int) + 1 + 1 by omega] at hr
      subst hOl
      go_wp2_with fail
      refine (heldHopM a3 _ c3 B (kz + (V : Int) + 1 + 1) _ hr (by omega) (by omega) (by omega)).mono ?_
      rintro e w2 ⟨rfl, rfl⟩
      go_wp2_with fail
      go_round
      case rel => exact ⟨rfl, k + 1, by omega, by go_num, congrArg (Value.int .i64) (by rw [hVs.out, hTT.out]; omega)⟩
      case measure => simp [intOf]; omega
    · obtain rfl : k = n := by omega
      go_wp2
      go_ret
      exact ⟨retI (by rw [hV.out]), rfl⟩
theorem totleSegment (zs : List TSegment) : zs.length ≤ sumTo totSegment zs zs.length := by
  have : ∀ k, k ≤ sumTo totSegment zs k := by
    intro k
    induction k with
    | zero => exact Nat.le_refl _
    | succ k ih => rw [sumTo]; have : 1 ≤ totSegment (zs.getD k default) := by unfold totSegment; omega
                   omega
  exact this _
end Go.Proofs.Ytdlafigjkefllaa
