
/- Beacon: rows of one's own by content. -/
import Derived.Test.YtdlafigjkefllaaOwnN
import Derived.Test.YtdlafigjkefllaaNBeacon
import Derived.Test.YtdlafigjkefllaaOwnP
namespace Go.Proofs.Ytdlafigjkefllaa
open Go.ChangeShapes Go.WideShapes Go.ChangeAt Go.RowKit
set_option linter.unusedVariables false
structure HBeacon where (ing : Int) (ts : Int) (beta : Int) (a : Option Addr) (n : Nat) (c : Nat)
instance : Inhabited HBeacon := ⟨⟨0, 0, 0, none, 0, 0⟩⟩
def HBeacon.cell (g : HBeacon) : Nat → Value
  | 0 => .int .i64 g.ing
  | 1 => .int .i64 g.ts
  | 2 => .int .i64 g.beta
  | _ => .slice g.a g.n g.c
def WBeacon : Kd HBeacon TBeacon where
  nc := 4
  pos := by decide
  cell := HBeacon.cell
  kid := fun w lo hi g x => g.ing = x.ing ∧ g.ts = x.ts ∧ g.beta = x.beta ∧ OwnHop w lo hi g.a g.n x.hops ∧ g.n ≤ g.c ∧ g.c ≤ 9223372036854775807 ∧ (g.a = none → g.c = 0)
  kid_mk := by
    intro lo hi lo' hi' w w' g x h m hB hr
    obtain ⟨e0, e1, e2, o, p1, p2, p3⟩ := h
    exact ⟨e0, e1, e2, o.mk m hB hr, p1, p2, p3⟩
  kid_set := by
    intro lo hi w g x h p u hp
    obtain ⟨e0, e1, e2, o, p1, p2, p3⟩ := h
    exact ⟨e0, e1, e2, o.set p u hp, p1, p2, p3⟩
  kid_wide := by
    intro lo hi lo' hi' w g x h hl hh
    obtain ⟨e0, e1, e2, o, p1, p2, p3⟩ := h
    exact ⟨e0, e1, e2, o.wide hl hh, p1, p2, p3⟩
/-- The numbers that an element holds. -/
def totBeacon (x : TBeacon) : Nat := 3 + 5 * x.hops.length
def mkeBeacon (k : Int) (x : TBeacon) : TBeacon := ⟨k, k + 1, k + 2, mklHop (k + 3) x.hops.length⟩
def mkBeacon (k : Int) (zs : List TBeacon) (n : Nat) : List TBeacon := (List.range n).map fun i => mkeBeacon (k + ((sumTo totBeacon zs i : Nat) : Int)) (zs.getD i default)
theorem mkBeacon_len (k : Int) (zs : List TBeacon) (n : Nat) : (mkBeacon k zs n).length = n := by simp [mkBeacon]
theorem mkBeacon_at (k : Int) (zs : List TBeacon) {n i : Nat} (h : i < n) : (mkBeacon k zs n).getD i default = mkeBeacon (k + ((sumTo totBeacon zs i : Nat) : Int)) (zs.getD i default) := getD_map_range h
theorem OwnN.hasBeacon {w : World} {lo hi n : Nat} {a : Option Addr} {ts : List TBeacon} (h : OwnN WBeacon w lo hi a n ts) : HasBeacon w hi a n ts := by
  obtain ⟨hl, gs, b, ho, hb, l, r, hap, hk⟩ := h
  refine ⟨hl, fun hn => ?_⟩
  obtain ⟨b', off, rfl, hb1, hb2, hc⟩ := ho.2 hn
  have hbb := hb hn
  refine ⟨b', off, rfl, by omega, fun i hi => ?_⟩
  obtain ⟨g1, g2, g3, g4, e0, e1, e2, o, p1, p2, p3⟩ := hk i hi
  have c0 := (hc (i * 4 + 0) (flat_le (nc := 4) hi (by decide))).1
  rw [show flat WBeacon.nc WBeacon.cell gs (i * 4 + 0) = HBeacon.cell (gs.getD i default) 0 from flat_at _ i 0 (by decide)] at c0
  have c1 := (hc (i * 4 + 1) (flat_le (nc := 4) hi (by decide))).1
  rw [show flat WBeacon.nc WBeacon.cell gs (i * 4 + 1) = HBeacon.cell (gs.getD i default) 1 from flat_at _ i 1 (by decide)] at c1
  rw [← Nat.add_assoc] at c1
  have c2 := (hc (i * 4 + 2) (flat_le (nc := 4) hi (by decide))).1
  rw [show flat WBeacon.nc WBeacon.cell gs (i * 4 + 2) = HBeacon.cell (gs.getD i default) 2 from flat_at _ i 2 (by decide)] at c2
  rw [← Nat.add_assoc] at c2
  have c3 := (hc (i * 4 + 3) (flat_le (nc := 4) hi (by decide))).1
  rw [show flat WBeacon.nc WBeacon.cell gs (i * 4 + 3) = HBeacon.cell (gs.getD i default) 3 from flat_at _ i 3 (by decide)] at c3
  rw [← Nat.add_assoc] at c3
  generalize gs.getD i default = g at *
  refine ⟨g.a, g.n, g.c, (e0 ▸ c0), (e1 ▸ c1), (e2 ▸ c2), c3, (o.has).mono (by omega), p1, p2, p3⟩
def mhBeacon (gs : List HBeacon) (zs : List TBeacon) (kz : Int) (k n : Nat) : List HBeacon := (List.range n).map fun i => if i < k then ⟨kz + ((sumTo totBeacon zs i : Nat) : Int), kz + ((sumTo totBeacon zs i : Nat) : Int) + 1, kz + ((sumTo totBeacon zs i : Nat) : Int) + 2, (gs.getD i default).a, (gs.getD i default).n, (gs.getD i default).c⟩ else gs.getD i default
def mzBeacon (zs : List TBeacon) (kz : Int) (k n : Nat) : List TBeacon := (List.range n).map fun i => if i < k then mkeBeacon (kz + ((sumTo totBeacon zs i : Nat) : Int)) (zs.getD i default) else zs.getD i default
theorem mhBeacon_at (gs : List HBeacon) (zs : List TBeacon) (kz : Int) (k : Nat) {n i : Nat} (h : i < n) : (mhBeacon gs zs kz k n).getD i default = if i < k then ⟨kz + ((sumTo totBeacon zs i : Nat) : Int), kz + ((sumTo totBeacon zs i : Nat) : Int) + 1, kz + ((sumTo totBeacon zs i : Nat) : Int) + 2, (gs.getD i default).a, (gs.getD i default).n, (gs.getD i default).c⟩ else gs.getD i default := getD_map_range h
theorem mzBeacon_at (zs : List TBeacon) (kz : Int) (k : Nat) {n i : Nat} (h : i < n) : (mzBeacon zs kz k n).getD i default = if i < k then mkeBeacon (kz + ((sumTo totBeacon zs i : Nat) : Int)) (zs.getD i default) else zs.getD i default := getD_map_range h
structure StBeacon (gs : List HBeacon) (zs : List TBeacon) (kz : Int) (n b off : Nat) (l r : Nat → Nat) (k : Nat) (w : World) : Prop where
  cl : Cl w b off (n * 4) (flat 4 HBeacon.cell (mhBeacon gs zs kz k n))
  kid : ∀ i, i < n → WBeacon.kid w (l i) (r i) ((mhBeacon gs zs kz k n).getD i default) ((mzBeacon zs kz k n).getD i default)
theorem StBeacon.start {gs : List HBeacon} {zs : List TBeacon} {n b off : Nat} {l r : Nat → Nat} {w : World} (kz : Int) (hc : Cl w b off (n * 4) (flat 4 HBeacon.cell gs)) (hk : ∀ i, i < n → WBeacon.kid w (l i) (r i) (gs.getD i default) (zs.getD i default)) : StBeacon gs zs kz n b off l r 0 w := by
  refine ⟨hc.congr (flat_congr (by decide) fun i hi q hq => ?_), fun i hi => ?_⟩
  · rw [flat_at _ i q hq, mhBeacon_at gs zs kz 0 hi, if_neg (by omega)]
  · rw [mhBeacon_at gs zs kz 0 hi, mzBeacon_at zs kz 0 hi, if_neg (by omega), if_neg (by omega)]
    exact hk i hi
theorem StBeacon.next {gs : List HBeacon} {zs : List TBeacon} {kz : Int} {n b off : Nat} {l r : Nat → Nat} {k : Nat} {w w' : World} (h : StBeacon gs zs kz n b off l r k w) (hlt : k < n) (hap : Apart l r n) (hq : ∀ i, i < n → b < l i ∨ r i ≤ b) (hr : ∀ i, i < n → r i ≤ w.heap.size)
    (m : Mk (l k) (r k) (((w.setCell ⟨b, off + k * 4, none⟩ (.int .i64 (kz + ((sumTo totBeacon zs k : Nat) : Int)))).setCell ⟨b, off + k * 4 + 1, none⟩ (.int .i64 (kz + ((sumTo totBeacon zs k : Nat) : Int) + 1))).setCell ⟨b, off + k * 4 + 2, none⟩ (.int .i64 (kz + ((sumTo totBeacon zs k : Nat) : Int) + 2))) w') (ho : OwnHop w' (l k) (r k) (gs.getD k default).a (gs.getD k default).n (mkeBeacon (kz + ((sumTo totBeacon zs k : Nat) : Int)) (zs.getD k default)).hops) : StBeacon gs zs kz n b off l r (k + 1) w' := by
  have hz : (((w.setCell ⟨b, off + k * 4, none⟩ (.int .i64 (kz + ((sumTo totBeacon zs k : Nat) : Int)))).setCell ⟨b, off + k * 4 + 1, none⟩ (.int .i64 (kz + ((sumTo totBeacon zs k : Nat) : Int) + 1))).setCell ⟨b, off + k * 4 + 2, none⟩ (.int .i64 (kz + ((sumTo totBeacon zs k : Nat) : Int) + 2))).heap.size = w.heap.size := by simp only [World.size_set]
  have hC := (((h.cl.put (o := off + k * 4) (q := k * 4 + 0) (.int .i64 (kz + ((sumTo totBeacon zs k : Nat) : Int))) (by omega)).put (o := off + k * 4 + 1) (q := k * 4 + 1) (.int .i64 (kz + ((sumTo totBeacon zs k : Nat) : Int) + 1)) (by omega)).put (o := off + k * 4 + 2) (q := k * 4 + 2) (.int .i64 (kz + ((sumTo totBeacon zs k : Nat) : Int) + 2)) (by omega))
  refine ⟨(hC.mk m (hq k hlt)).congr (flat_congr (by decide) fun i hi q hq' => ?_), fun i hi => ?_⟩
  · rw [mhBeacon_at gs zs kz (k + 1) hi]
    have hf : flat 4 HBeacon.cell (mhBeacon gs zs kz k n) (i * 4 + q) = HBeacon.cell ((mhBeacon gs zs kz k n).getD i default) q := flat_at _ i q hq'
    rw [mhBeacon_at gs zs kz k hi] at hf
    by_cases e : i = k
    · subst e
      rw [if_pos (show i < i + 1 by omega)]
      rw [if_neg (show ¬ i < i by omega)] at hf
      match q, hq' with
      | 0, _ => rw [if_neg (show ¬ (i * 4 + 0 = i * 4 + 2) by omega)]; rw [if_neg (show ¬ (i * 4 + 0 = i * 4 + 1) by omega)]; rw [if_pos rfl]; rfl
      | 1, _ => rw [if_neg (show ¬ (i * 4 + 1 = i * 4 + 2) by omega)]; rw [if_pos rfl]; rfl
      | 2, _ => rw [if_pos rfl]; rfl
      | 3, _ => rw [if_neg (show ¬ (i * 4 + 3 = i * 4 + 2) by omega)]; rw [if_neg (show ¬ (i * 4 + 3 = i * 4 + 1) by omega)]; rw [if_neg (show ¬ (i * 4 + 3 = i * 4 + 0) by omega)]; rw [hf]; rfl
    · rw [if_neg (show ¬ (i * 4 + q = k * 4 + 2) by omega)]; rw [if_neg (show ¬ (i * 4 + q = k * 4 + 1) by omega)]; rw [if_neg (show ¬ (i * 4 + q = k * 4 + 0) by omega)]; rw [hf]
      by_cases e2 : i < k
      · rw [if_pos e2, if_pos (show i < k + 1 by omega)]
      · rw [if_neg e2, if_neg (show ¬ i < k + 1 by omega)]
  · rw [mhBeacon_at gs zs kz (k + 1) hi, mzBeacon_at zs kz (k + 1) hi]
    have hk1 := (WBeacon.kid_set (WBeacon.kid_set (WBeacon.kid_set (h.kid i hi) ⟨b, off + k * 4, none⟩ (.int .i64 (kz + ((sumTo totBeacon zs k : Nat) : Int))) (hq i hi)) ⟨b, off + k * 4 + 1, none⟩ (.int .i64 (kz + ((sumTo totBeacon zs k : Nat) : Int) + 1)) (hq i hi)) ⟨b, off + k * 4 + 2, none⟩ (.int .i64 (kz + ((sumTo totBeacon zs k : Nat) : Int) + 2)) (hq i hi))
    rw [mhBeacon_at gs zs kz k hi, mzBeacon_at zs kz k hi] at hk1
    by_cases e : i = k
    · subst e
      rw [if_pos (show i < i + 1 by omega), if_pos (show i < i + 1 by omega)]
      rw [if_neg (show ¬ i < i by omega), if_neg (show ¬ i < i by omega)] at hk1
      obtain ⟨e0, e1, e2, o, p1, p2, p3⟩ := hk1
      exact ⟨rfl, rfl, rfl, ho, p1, p2, p3⟩
    · have hk2 := WBeacon.kid_mk hk1 m (by rw [hz]; exact hr i hi) (by have := hap i k hi hlt e; omega)
      by_cases e2 : i < k
      · rw [if_pos e2, if_pos e2] at hk2
        rw [if_pos (show i < k + 1 by omega), if_pos (show i < k + 1 by omega)]
        exact hk2
      · rw [if_neg e2, if_neg e2] at hk2
        rw [if_neg (show ¬ i < k + 1 by omega), if_neg (show ¬ i < k + 1 by omega)]
        exact hk2
set_option maxRecDepth 100000 in
set_option maxHeartbeats 4000000 in
theorem markBeaconW (a : Option Addr) (n c lo hi : Nat) (kz : Int) (zs : List TBeacon) (w : World) (h : OwnN WBeacon w lo hi a n zs) (hn : n ≤ 2097152) (ht : sumTo totBeacon zs n ≤ 10485760) (h0 : 0 ≤ kz) (h1 : kz ≤ 1073741824) (hh : hi ≤ w.heap.size) :
    Calls Try.prog 12 #[.slice a n c, .int .i64 kz] w fun e w' => e = .returned (.int .i64 (kz + ((sumTo totBeacon zs n : Nat) : Int))) ∧ OwnN WBeacon w' lo hi a n (mkBeacon kz zs n) ∧ Mk lo hi w w' := by
  by_cases hz : n = 0
  · subst hz
    go_enter Try.func12, Try.ntmps12
    go_wp2
    refine wp_loop_rounds 1 ?_; rw [rounds_succ]
    go_wp2
    go_ret
    exact ⟨by simp [sumTo], OwnN.none_ _ _ _ _ _, Mk.refl _ _ _⟩
  · obtain ⟨hlen, gs, b, ho, hb, l, r, hap, hk⟩ := h
    obtain ⟨b', off, rfl, hb1, hb2, _⟩ := ho.2 (by omega)
    obtain rfl : b = b' := by omega
    obtain ⟨hlb, hbh⟩ := hb (by omega)
    have hAP := Lib.hid hap
    have hRG := Lib.hid (show ∀ i, i < n → lo ≤ l i ∧ l i ≤ r i ∧ r i ≤ hi ∧ (b < l i ∨ r i ≤ b) from fun i hi => ⟨(hk i hi).1, (hk i hi).2.1, (hk i hi).2.2.1, (hk i hi).2.2.2.1 b ⟨by omega, rfl⟩⟩)
    have hS := StBeacon.start (l := l) (r := r) kz (ho.cl (by omega)) (fun i hi => (hk i hi).2.2.2.2)
    have HT := Lib.hid ht
    clear hk hap ho hb ht
    go_enter Try.func12, Try.ntmps12
    go_wp2
    go_loopw [1, 5] (fun q i wr => ∃ k : Nat, k ≤ n ∧ i = .int .i64 k ∧ q = .int .i64 (kz + ((sumTo totBeacon zs k : Nat) : Int)) ∧ Hid (StBeacon gs zs kz n b off l r k wr) ∧ Mk lo hi w wr) (fun _ i _ => n - (intOf i).toNat)
    case atStart => exact ⟨0, Nat.zero_le _, rfl, by simp [sumTo], hS, Mk.refl _ _ _⟩
    case round =>
      clear hS
      obtain ⟨k, hk, rfl, rfl, hS, hM⟩ := hrel
      have hs1 := sumTo_le totBeacon zs hk
      obtain ⟨V, hV⟩ : ∃ V, Hid (V = sumTo totBeacon zs k) := ⟨_, Lib.hid rfl⟩
      have hVb : V ≤ 10485760 := by rw [hV.out]; exact Nat.le_trans hs1 HT.out
      clear hs1
      rw [← hV.out]
      by_cases hlt : k < n
      · have hT := sumTo_at totBeacon zs hlt
        rw [← hV.out] at hT
        have hC := hS.out.cl
        have hK := hS.out.kid k hlt
        rw [mhBeacon_at gs zs kz k hlt, mzBeacon_at zs kz k hlt, if_neg (by omega), if_neg (by omega)] at hK
        have c0 := hC (k * 4 + 0) (flat_le (nc := 4) hlt (by decide))
        rw [flat_at _ k 0 (by decide), mhBeacon_at gs zs kz k hlt, if_neg (by omega)] at c0
        rw [Nat.add_zero] at c0
        have c1 := hC (k * 4 + 1) (flat_le (nc := 4) hlt (by decide))
        rw [flat_at _ k 1 (by decide), mhBeacon_at gs zs kz k hlt, if_neg (by omega)] at c1
        rw [← Nat.add_assoc] at c1
        have c2 := hC (k * 4 + 2) (flat_le (nc := 4) hlt (by decide))
        rw [flat_at _ k 2 (by decide), mhBeacon_at gs zs kz k hlt, if_neg (by omega)] at c2
        rw [← Nat.add_assoc] at c2
        have c3 := hC (k * 4 + 3) (flat_le (nc := 4) hlt (by decide))
        rw [flat_at _ k 3 (by decide), mhBeacon_at gs zs kz k hlt, if_neg (by omega)] at c3
        rw [← Nat.add_assoc] at c3
        obtain ⟨G, hG⟩ : ∃ G, Hid (G = gs.getD k default) := ⟨_, Lib.hid rfl⟩
        obtain ⟨X, hX⟩ : ∃ X, Hid (X = zs.getD k default) := ⟨_, Lib.hid rfl⟩
        rw [← hG.out, ← hX.out] at hK
        rw [← hX.out] at hT
        rw [← hG.out] at c0
        obtain ⟨d0, f0⟩ := c0
        rw [← hG.out] at c1
        obtain ⟨d1, f1⟩ := c1
        rw [← hG.out] at c2
        obtain ⟨d2, f2⟩ := c2
        rw [← hG.out] at c3
        obtain ⟨d3, f3⟩ := c3
        replace d3 : wr.cell? ⟨b, off + k * 4 + 3, none⟩ = some (.slice G.a G.n G.c) := d3
        obtain ⟨e0, e1, e2, OK, P1, P2, P3⟩ := hK
        have hOl := OK.1
        have hVs := Lib.hid (show sumTo totBeacon zs (k + 1) = V + totBeacon X by rw [sumTo, ← hV.out, hX.out])
        have hTT := Lib.hid (show totBeacon X = 3 + 5 * X.hops.length from rfl)
        rw [hTT.out] at hT
        have hTb := Nat.le_trans hT HT.out
        clear hT
        have hRk := hRG.out k hlt
        have HE := Lib.hid (show kz + ((sumTo totBeacon zs k : Nat) : Int) = kz + (V : Int) by rw [hV.out])
        have hkn : k + 1 ≤ n := by omega
        have hO3 := (((OK.set ⟨b, off + k * 4, none⟩ (.int .i64 (kz + (V : Int))) hRk.2.2.2).set ⟨b, off + k * 4 + 1, none⟩ (.int .i64 (kz + (V : Int) + 1)) hRk.2.2.2).set ⟨b, off + k * 4 + 2, none⟩ (.int .i64 (kz + (V : Int) + 1 + 1)) hRk.2.2.2)
        have hMM := (((hM.putR ⟨b, off + k * 4, none⟩ (.int .i64 (kz + (V : Int))) hlb hbh).putR ⟨b, off + k * 4 + 1, none⟩ (.int .i64 (kz + (V : Int) + 1)) hlb hbh).putR ⟨b, off + k * 4 + 2, none⟩ (.int .i64 (kz + (V : Int) + 1 + 1)) hlb hbh)
        have hz3 : (((wr.setCell ⟨b, off + k * 4, none⟩ (.int .i64 (kz + (V : Int)))).setCell ⟨b, off + k * 4 + 1, none⟩ (.int .i64 (kz + (V : Int) + 1))).setCell ⟨b, off + k * 4 + 2, none⟩ (.int .i64 (kz + (V : Int) + 1 + 1))).heap.size = wr.heap.size := by simp only [World.size_set]
        have hsz := hM.size
        go_wp2_with fail
        refine (markHopM G.a G.n G.c (l k) (r k) (kz + (V : Int) + 1 + 1 + 1) X.hops _ hO3 (by omega) (by omega) (by omega)).mono ?_
        rintro e w2 ⟨rfl, ho2, m2⟩
        have hM2 := hMM.trans (m2.wide (.inr ⟨hRk.1, hRk.2.2.1⟩))
        have hm2 : Mk (l k) (r k) (((wr.setCell ⟨b, off + k * 4, none⟩ (.int .i64 (kz + ((sumTo totBeacon zs k : Nat) : Int)))).setCell ⟨b, off + k * 4 + 1, none⟩ (.int .i64 (kz + ((sumTo totBeacon zs k : Nat) : Int) + 1))).setCell ⟨b, off + k * 4 + 2, none⟩ (.int .i64 (kz + ((sumTo totBeacon zs k : Nat) : Int) + 2))) w2 := by
          rw [HE.out]
          rw [show kz + (V : Int) + 2 = kz + (V : Int) + 1 + 1 by omega]
          exact m2
        have ho3 : OwnHop w2 (l k) (r k) (gs.getD k default).a (gs.getD k default).n (mkeBeacon (kz + ((sumTo totBeacon zs k : Nat) : Int)) (zs.getD k default)).hops := by
          rw [← hG.out, ← hX.out, HE.out]
          show OwnHop w2 (l k) (r k) G.a G.n (mklHop (kz + (V : Int) + 3) X.hops.length)
          rw [hOl]
          rw [show kz + (V : Int) + 3 = kz + (V : Int) + 1 + 1 + 1 by omega]
          exact ho2
        have hS2 := Lib.hid (hS.out.next hlt hAP.out (fun i hi => (hRG.out i hi).2.2.2) (fun i hi => by have := (hRG.out i hi).2.2.1; omega) hm2 ho3)
        clear hm2 ho3 ho2
        go_wp2_with fail
        go_roundw
        case rel => exact ⟨k + 1, hkn, by go_num, congrArg (Value.int .i64) (by rw [hVs.out, hTT.out, hOl]; omega), hS2, hM2⟩
        case measure => simp [intOf]; omega
      · obtain rfl : k = n := by omega
        have hfin : OwnN WBeacon wr lo hi (some ⟨b, off, none⟩) k (mkBeacon kz zs k) := by
          refine OwnN.of_own (gs := mhBeacon gs zs kz k k) (OwnR.of_cl (nc := 4) (cell := HBeacon.cell) (by simp [mhBeacon]) hS.out.cl) ⟨hlb, hbh⟩ ⟨l, r, hAP.out, fun i hi => ?_⟩ (mkBeacon_len _ _ _)
          obtain ⟨g1, g2, g3, g4⟩ := hRG.out i hi
          refine ⟨g1, g2, g3, fun q hq => by subst hq; exact g4, ?_⟩
          have := hS.out.kid i hi
          rw [mkBeacon_at _ _ hi]
          rwa [mzBeacon_at zs kz k hi, if_pos hi] at this
        go_wp2_with fail
        go_ret
        exact ⟨retI (by rw [hV.out]), hfin, hM⟩
set_option maxRecDepth 100000 in
set_option maxHeartbeats 4000000 in
theorem heldBeaconW (a : Option Addr) (n c B : Nat) (kz : Int) (zs : List TBeacon) (w : World) (h : HasBeacon w B a n (mkBeacon kz zs n)) (hn : n ≤ 2097152) (ht : sumTo totBeacon zs n ≤ 10485760) (h0 : 0 ≤ kz) (h1 : kz ≤ 1073741824) :
    Calls Try.prog 13 #[.slice a n c, .int .i64 kz] w fun e w' => e = .returned (.int .i64 (kz + ((sumTo totBeacon zs n : Nat) : Int))) ∧ w = w' := by
  have HT := Lib.hid ht
  clear ht
  go_enter Try.func13, Try.ntmps13
  go_wp2
  go_loop [1, 4, 5] (fun q rr i => rr = .int .i64 0 ∧ ∃ k : Nat, k ≤ n ∧ i = .int .i64 k ∧ q = .int .i64 (kz + ((sumTo totBeacon zs k : Nat) : Int))) (fun _ _ i => n - (intOf i).toNat)
  case atStart => exact ⟨rfl, 0, Nat.zero_le _, rfl, by simp [sumTo]⟩
  case round =>
    obtain ⟨rfl, k, hk, rfl, rfl⟩ := hrel
    have hs1 := sumTo_le totBeacon zs hk
    obtain ⟨V, hV⟩ : ∃ V, Hid (V = sumTo totBeacon zs k) := ⟨_, Lib.hid rfl⟩
    have hVb : V ≤ 10485760 := by rw [hV.out]; exact Nat.le_trans hs1 HT.out
    clear hs1
    rw [← hV.out]
    by_cases hlt : k < n
    · have hT := sumTo_at totBeacon zs hlt
      rw [← hV.out] at hT
      obtain ⟨b, off, x, rfl, hb, hx, a3, n3, c3, d0, d1, d2, d3, hr, p1, p2, p3⟩ := HasBeacon.at _ _ _ _ _ _ h hlt
      obtain ⟨X, hX⟩ : ∃ X, Hid (X = zs.getD k default) := ⟨_, Lib.hid rfl⟩
      rw [← hX.out] at hT
      obtain rfl := hx.out.trans (mkBeacon_at kz zs hlt)
      rw [← hX.out, ← hV.out] at d0 d1 d2 hr
      simp only [mkeBeacon] at d0 d1 d2 hr
      have hVs := Lib.hid (show sumTo totBeacon zs (k + 1) = V + totBeacon X by rw [sumTo, ← hV.out, hX.out])
      have hTT := Lib.hid (show totBeacon X = 3 + 5 * X.hops.length from rfl)
      rw [hTT.out] at hT
      have hTb := Nat.le_trans hT HT.out
      clear hT
      have hOl : (mklHop (kz + (V : Int) + 3) X.hops.length).length = n3 := hr.1
      rw [mklHop_len] at hOl
      rw [show kz + (V : Int) + 2 = kz + (V : Int) + 1 + 1 by omega] at d2
      rw [show kz + (V : Int) + 3 = kz + (V : Int) + 1 + 1 + 1 by omega] at hr
      subst hOl
      go_wp2_with fail
      refine (heldHopM a3 _ c3 B (kz + (V : Int) + 1 + 1 + 1) _ hr (by omega) (by omega) (by omega)).mono ?_
      rintro e w2 ⟨rfl, rfl⟩
      go_wp2_with fail
      go_round
      case rel => exact ⟨rfl, k + 1, by omega, by go_num, congrArg (Value.int .i64) (by rw [hVs.out, hTT.out]; omega)⟩
      case measure => simp [intOf]; omega
    · obtain rfl : k = n := by omega
      go_wp2
      go_ret
      exact ⟨retI (by rw [hV.out]), rfl⟩
theorem totleBeacon (zs : List TBeacon) : zs.length ≤ sumTo totBeacon zs zs.length := by
  have : ∀ k, k ≤ sumTo totBeacon zs k := by
    intro k
    induction k with
    | zero => exact Nat.le_refl _
    | succ k ih => rw [sumTo]; have : 1 ≤ totBeacon (zs.getD k default) := by unfold totBeacon; omega
                   omega
  exact this _
end Go.Proofs.Ytdlafigjkefllaa
