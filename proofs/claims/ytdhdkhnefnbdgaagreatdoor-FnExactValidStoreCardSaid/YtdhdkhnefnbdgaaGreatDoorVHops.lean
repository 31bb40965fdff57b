
/- Which hops verify, by the program. -/
import Derived.Test.YtdhdkhnefnbdgaaGreatDoorVerify
import Derived.Test.YtdhdkhnefnbdgaaGreatDoorBetaAt
import Derived.Test.YtdhdkhnefnbdgaaGreatDoorTurn
import Derived.Test.YtdhdkhnefnbdgaaGreatDoorWs
import Derived.Test.YtdhdkhnefnbdgaaGreatDoorDig
import Derived.Test.YtdhdkhnefnbdgaaGreatDoorSeen
namespace Go.Proofs.YtdhdkhnefnbdgaaGreatDoor
open Go.ChangeShapes Go.WideShapes Go.ChangeAt Go.RowKit
set_option linter.unusedVariables false
def bUp (b : Int) (hs : List THop) : Nat → Int
  | 0 => b
  | k + 1 => addM (bUp b hs k) (hs.getD k default).mac
theorem chN_congr {b : Int} {xs ys : List Int} : ∀ k, (∀ j, j < k → xs.getD j 0 = ys.getD j 0) → chN b xs k = chN b ys k
  | 0, _ => rfl
  | k + 1, h => by rw [chN, chN, h k (by omega), chN_congr k fun j hj => h j (by omega)]
theorem chN_bUp (b : Int) (hs : List THop) (q : Nat) : ∀ k, k ≤ q → chN b (colN THop.mac hs q) k = bUp b hs k
  | 0, _ => rfl
  | k + 1, h => by rw [chN, chN_bUp b hs q k (by omega), colN_get _ _ _ _ (by omega)]; rfl
theorem betaV_bUp {b : Int} {hs : List THop} {n q : Nat} (h : q ≤ n) : betaV b hs n (q : Int) = bUp b hs q := by
  rw [betaV_in h, chN_bUp _ _ _ _ (Nat.le_refl _)]
theorem bUp_fits {b : Int} (hb : (Lit.int .i64 b).wf = true) (hs : List THop) : ∀ k, (Lit.int .i64 (bUp b hs k)).wf = true
  | 0 => hb
  | k + 1 => addM_fits _ _
/-- Whether hop k verifies. -/
def vAt (zA : List TAS) (n0 : Nat) (t b : Int) (hs : List THop) (k : Nat) : Bool := vhB zA n0 t (bUp b hs k) (hs.getD k default).nd (hs.getD k default).ing (hs.getD k default).eg (hs.getD k default).exp (hs.getD k default).mac
theorem infoBool : (Tryz.prog.info? 4).map (fun i => (i.zero, i.size, i.bytes)) = some (some (.bool false), 1, 1) := by kernel_rfl
def OutBools (w : World) (n : Nat) (f : Nat → Bool) (e : Ending) (w' : World) : Prop :=
  ∃ g, e = .returned (.slice (some ⟨g, 0, none⟩) n n) ∧ (∀ j, j < n → w'.cell? ⟨g, j, none⟩ = some (.bool (f j))) ∧ Mk0 w w'
set_option maxRecDepth 100000 in
set_option maxHeartbeats 4000000 in
theorem implVHops (a0 a1 : Option Addr) (n0 c0 n1 c1 B : Nat) (zA : List TAS) (x0 x1 : Int) (a : Option Addr) (n c B' : Nat) (hs : List THop) (w : World) (hA : HasAS w B a0 n0 zA) (hB : B ≤ w.heap.size) (hn0 : n0 ≤ 1048576) (h : HasHop w B' a n hs) (hB' : B' ≤ w.heap.size) (hn : n ≤ 1048576) (hz : ∀ y ∈ zA, TAS.fits y) (ht : (Lit.int .i64 x0).wf = true) (hb : (Lit.int .i64 x1).wf = true) (hf : ∀ y ∈ hs, THop.fits y) :
    Calls Tryz.prog 99 #[.agg #[.slice a0 n0 c0, .slice a1 n1 c1], .agg #[.int .i64 x0, .int .i64 x1, .slice a n c]] w (OutBools w n (vAt zA n0 x0 x1 hs)) := by
  obtain ⟨i0, hi, hz0, hz1, hz2⟩ := info_parts infoBool
  have hu := Tryz.underlying139
  have M0 := (Mk.alloc w (Obj.cells #[Value.slice a0 n0 c0, Value.slice a1 n1 c1] 35)).new (Obj.cells #[Value.int .i64 x0, Value.int .i64 x1, Value.slice a n c] 39)
  have k0 : ((w.alloc (Obj.cells #[Value.slice a0 n0 c0, Value.slice a1 n1 c1] 35)).alloc (Obj.cells #[Value.int .i64 x0, Value.int .i64 x1, Value.slice a n c] 39)).cell? ⟨w.heap.size, 0, none⟩ = some (.slice a0 n0 c0) := by simp [go_sem]
  have k1 : ((w.alloc (Obj.cells #[Value.slice a0 n0 c0, Value.slice a1 n1 c1] 35)).alloc (Obj.cells #[Value.int .i64 x0, Value.int .i64 x1, Value.slice a n c] 39)).cell? ⟨w.heap.size, 1, none⟩ = some (.slice a1 n1 c1) := by simp [go_sem]
  have j0 : ((w.alloc (Obj.cells #[Value.slice a0 n0 c0, Value.slice a1 n1 c1] 35)).alloc (Obj.cells #[Value.int .i64 x0, Value.int .i64 x1, Value.slice a n c] 39)).cell? ⟨w.heap.size + 1, 0, none⟩ = some (.int .i64 x0) := by simp [go_sem]
  have j1 : ((w.alloc (Obj.cells #[Value.slice a0 n0 c0, Value.slice a1 n1 c1] 35)).alloc (Obj.cells #[Value.int .i64 x0, Value.int .i64 x1, Value.slice a n c] 39)).cell? ⟨w.heap.size + 1, 1, none⟩ = some (.int .i64 x1) := by simp [go_sem]
  have j2 : ((w.alloc (Obj.cells #[Value.slice a0 n0 c0, Value.slice a1 n1 c1] 35)).alloc (Obj.cells #[Value.int .i64 x0, Value.int .i64 x1, Value.slice a n c] 39)).cell? ⟨w.heap.size + 1, 2, none⟩ = some (.slice a n c) := by simp [go_sem]
  have HZ := Lib.hid hz
  have HFF := Lib.hid hf
  have HBF := Lib.hid (bUp_fits hb hs)
  have HTF := Lib.hid ht
  clear hz hf hb ht
  go_enter Tryz.func99, Tryz.ntmps99
  have hs2 : ((w.alloc (Obj.cells #[Value.slice a0 n0 c0, Value.slice a1 n1 c1] 35)).alloc (Obj.cells #[Value.int .i64 x0, Value.int .i64 x1, Value.slice a n c] 39)).heap.size = w.heap.size + 1 + 1 := by rw [World.size_alloc, World.size_alloc]
  go_wp2_with (with_reducible refine wpList_make_full ((w.alloc (Obj.cells #[Value.slice a0 n0 c0, Value.slice a1 n1 c1] 35)).alloc (Obj.cells #[Value.int .i64 x0, Value.int .i64 x1, Value.slice a n c] 39)) rfl (.tmp 11) (.tmp 11) 139 rfl ((w.alloc (Obj.cells #[Value.slice a0 n0 c0, Value.slice a1 n1 c1] 35)).alloc (Obj.cells #[Value.int .i64 x0, Value.int .i64 x1, Value.slice a n c] 39)).heap.size 4 i0 (.bool false) 1 hu hi hz0 hz1 .i64 .i64 n n n rfl rfl rfl rfl (by rw [hz2]; omega) (by unfold maxLen; omega) (Nat.le_refl _) ?_; intro w1 hown hgr; have hF := (ownsRow_fillR hown (fun _ => undef)).toP (g := fun j => .bool (vAt zA n0 x0 x1 hs j)); have m1 : Mk0 ((w.alloc (Obj.cells #[Value.slice a0 n0 c0, Value.slice a1 n1 c1] 35)).alloc (Obj.cells #[Value.int .i64 x0, Value.int .i64 x1, Value.slice a n c] 39)) w1 := Mk.of_below ((Below.refl _ _).grown hgr (Nat.le_refl _) (fun k hk => by cases hk)); have hg1 := (hown.lt _ rfl).2; rw [Nat.mul_one] at hF; clear hown hgr hu; rw [hs2] at hF hg1; have M1 := M0.trans m1; replace k0 := m1.cellAt k0; replace k1 := m1.cellAt k1; replace j0 := m1.cellAt j0; replace j1 := m1.cellAt j1; replace j2 := m1.cellAt j2)
  go_loopw [6, 18] (fun v i wr => ∃ k : Nat, k ≤ n ∧ i = .int .i64 k ∧ v = .int .i64 (bUp x1 hs k) ∧ FillP wr (w.heap.size + 1 + 1) n (fun j => j < k) (fun j => .bool (vAt zA n0 x0 x1 hs j)) ∧ Mk (w.heap.size + 1 + 1) ((w.heap.size + 1 + 1) + 1) w1 wr ∧ Mk0 w wr ∧ (w.heap.size + 1 + 1) < wr.heap.size) (fun _ i _ => n - (intOf i).toNat)
  case atStart => exact ⟨0, Nat.zero_le _, rfl, rfl, hF.mono (fun j hj hq => by omega), Mk.refl _ _ _, M1, hg1⟩
  case round =>
    clear hF
    obtain ⟨k, hk, rfl, rfl, hF, hM, hM', hszr⟩ := hrel
    replace k0 := hM.cellAtR k0 (by omega)
    replace k1 := hM.cellAtR k1 (by omega)
    replace j0 := hM.cellAtR j0 (by omega)
    replace j1 := hM.cellAtR j1 (by omega)
    replace j2 := hM.cellAtR j2 (by omega)
    by_cases hlt : k < n
    · obtain ⟨b, off, x, eb, hb2, hx, d0, d1, d2, d3, d4⟩ := HasHop.at _ _ _ _ _ _ (h.mk hM' hB' (.inr (Nat.le_refl _))) hlt
      subst eb
      have hbr := World.block_lt_of_cell? _ _ d0
      have hbq := World.block_lt_of_cell? _ _ k0
      have hbj := World.block_lt_of_cell? _ _ j0
      simp only at hbr hbq hbj
      have i1 : (0 : Int) ≤ (k : Int) := by omega
      have i2 : (k : Int) < (n : Int) := by omega
      have MX := Mk.alloc wr (Obj.cells #[Value.int .i64 x.nd, Value.int .i64 x.ing, Value.int .i64 x.eg, Value.int .i64 x.exp, Value.int .i64 x.mac] 61)
      have q0 : (wr.alloc (Obj.cells #[Value.int .i64 x.nd, Value.int .i64 x.ing, Value.int .i64 x.eg, Value.int .i64 x.exp, Value.int .i64 x.mac] 61)).cell? ⟨wr.heap.size, 0, none⟩ = some (.int .i64 x.nd) := by simp [go_sem]
      have q1 : (wr.alloc (Obj.cells #[Value.int .i64 x.nd, Value.int .i64 x.ing, Value.int .i64 x.eg, Value.int .i64 x.exp, Value.int .i64 x.mac] 61)).cell? ⟨wr.heap.size, 1, none⟩ = some (.int .i64 x.ing) := by simp [go_sem]
      have q2 : (wr.alloc (Obj.cells #[Value.int .i64 x.nd, Value.int .i64 x.ing, Value.int .i64 x.eg, Value.int .i64 x.exp, Value.int .i64 x.mac] 61)).cell? ⟨wr.heap.size, 2, none⟩ = some (.int .i64 x.eg) := by simp [go_sem]
      have q3 : (wr.alloc (Obj.cells #[Value.int .i64 x.nd, Value.int .i64 x.ing, Value.int .i64 x.eg, Value.int .i64 x.exp, Value.int .i64 x.mac] 61)).cell? ⟨wr.heap.size, 3, none⟩ = some (.int .i64 x.exp) := by simp [go_sem]
      have q4 : (wr.alloc (Obj.cells #[Value.int .i64 x.nd, Value.int .i64 x.ing, Value.int .i64 x.eg, Value.int .i64 x.exp, Value.int .i64 x.mac] 61)).cell? ⟨wr.heap.size, 4, none⟩ = some (.int .i64 x.mac) := by simp [go_sem]
      replace k0 := MX.cellAt k0
      replace k1 := MX.cellAt k1
      replace j0 := MX.cellAt j0
      replace j1 := MX.cellAt j1
      replace j2 := MX.cellAt j2
      have MR := hM'.trans MX
      have HXF := Lib.hid (hopL_fits HTF.out (HBF.out k) (hopfit h.1 hlt HFF.out hx.out))
      obtain ⟨V, hV⟩ : ∃ V, Hid (V = vAt zA n0 x0 x1 hs k) := ⟨_, Lib.hid rfl⟩
      have HV := Lib.hid (show vhB zA n0 x0 (bUp x1 hs k) x.nd x.ing x.eg x.exp x.mac = V by rw [hV.out]; unfold vAt; rw [← hx.out])
      obtain ⟨β, hβ⟩ : ∃ β, Hid (β = bUp x1 hs k) := ⟨_, Lib.hid rfl⟩
      rw [← hβ.out] at HXF HV ⊢
      have HN := Lib.hid (show bUp x1 hs (k + 1) = addM β x.mac by rw [bUp, ← hβ.out, ← hx.out])
      go_wp2_with fail
      refine (implVerify a0 a1 n0 c0 n1 c1 B zA x0 β x.nd x.ing x.eg x.exp x.mac _ (hA.mk MR hB (.inr (Nat.le_refl _))) (Nat.le_trans hB MR.size) hn0 HZ.out HXF.out).mono ?_
      rintro e w3 ⟨he, m3⟩
      rw [HV.out] at he
      subst he
      replace k0 := m3.cellAt k0
      replace k1 := m3.cellAt k1
      replace j0 := m3.cellAt j0
      replace j1 := m3.cellAt j1
      replace j2 := m3.cellAt j2
      replace q0 := m3.cellAt q0
      replace q1 := m3.cellAt q1
      replace q2 := m3.cellAt q2
      replace q3 := m3.cellAt q3
      replace q4 := m3.cellAt q4
      have hF2 := hF.keep (MX.trans m3)
      obtain ⟨u, p, fr⟩ := hF2.any hlt
      have hbE := World.block_lt_of_cell? _ _ q0
      have hbP := World.block_lt_of_cell? _ _ p
      simp only at hbE hbP
      have hne : (w.heap.size + 1 + 1) ≠ wr.heap.size := by omega
      have hs3 := (MX.trans m3).size
      go_wp2_with fail
      refine (implAddMod β x.mac _).mono ?_
      rintro e w' ⟨rfl, rfl⟩
      go_wp2_with fail
      go_roundw
      case rel => exact ⟨k + 1, by omega, by go_num, congrArg (Value.int .i64) HN.out.symm, (hF2.set hlt (by rw [hV.out])).mono (fun j hj hq => by omega), ((hM.trans ((MX.trans m3).wide (.inl (Nat.le_refl _)))).putR _ _ (Nat.le_refl _) (Nat.lt_succ_self _)), (hM'.trans (MX.trans m3)).put _ _ (by show w.heap.size ≤ (w.heap.size + 1 + 1); omega), by simp only [World.size_set]; omega⟩
      case measure => simp [intOf]; omega
    · obtain rfl : k = n := by omega
      go_wp2_with fail
      go_ret
      exact ⟨_, rfl, fun j hj => by obtain ⟨v, h1, _, h3⟩ := hF j hj; rw [h1, h3 hj], hM'⟩

end Go.Proofs.YtdhdkhnefnbdgaaGreatDoor
