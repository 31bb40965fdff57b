
/- cloneAll over rows of Segment. -/
import Derived.Test.YtdlafigjkefllaaLSegment
import Derived.Test.YtdlafigjkefllaaTurn
namespace Go.Proofs.Ytdlafigjkefllaa
open Go.ChangeShapes Go.WideShapes Go.ChangeAt Go.RowKit
set_option linter.unusedVariables false
set_option maxRecDepth 100000 in
set_option maxHeartbeats 4000000 in
theorem cloneAllSegment (g : TSegment → TSegment) (Fc : FuncId) (a : Option Addr) (n c B : Nat) (zs : List TSegment) (w : World) (h : HasSegment w B a n zs) (hB : B ≤ w.heap.size) (hs : szSegment zs n ≤ 1048576)
    (hen : ∀ (x : TSegment) a3 n3 c3 w1, (callFunc Fc #[.agg #[.int .i64 x.ts, .int .i64 x.beta, .slice a3 n3 c3]]).run Try.prog w1 = .ok (.enter Fc #[.agg #[.int .i64 x.ts, .int .i64 x.beta, .slice a3 n3 c3]]) w1)
    (hcl : ∀ (x : TSegment) a3 n3 c3 B1 w1, HasHop w1 B1 a3 n3 x.hops → B1 ≤ w1.heap.size → n3 ≤ 1048576 → n3 ≤ c3 → c3 ≤ 9223372036854775807 → (a3 = none → c3 = 0) → Calls Try.prog Fc #[.agg #[.int .i64 x.ts, .int .i64 x.beta, .slice a3 n3 c3]] w1 (OutElSegment (g x) w1)) :
    Calls Try.prog 78 #[.slice a n c, .func (.func Fc) #[] #[]] w (OutLSegment ((zs.map g)) w) := by
  have hn : n ≤ 1048576 := Nat.le_trans (szSegment_n zs n) hs
  obtain ⟨i0, hi, hz0, hz1, hz2⟩ := info_parts infoRSegment
  have hu := Try.underlying34
  have HCL := Lib.hid hcl
  have HEN := Lib.hid hen
  clear hcl hen
  obtain ⟨RR, hRR⟩ : ∃ R, Hid (R = (zs.map g)) := ⟨_, Lib.hid rfl⟩
  have hRl : RR.length = n := by rw [hRR.out]; rw [List.length_map]; exact h.1
  rw [← hRR.out]
  go_enter Try.func78, Try.ntmps78
  go_wp2_with (with_reducible refine wpList_make_full w rfl (.tmp 9) (.tmp 9) 34 rfl w.heap.size 82 i0 (.agg #[.int .i64 0, .int .i64 0, .slice none 0 0]) 3 hu hi hz0 hz1 .i64 .i64 n n n rfl rfl rfl rfl (by rw [hz2]; omega) (by unfold maxLen; omega) (Nat.le_refl _) ?_; intro w1 hown hgr)
  have hF := (ownsRow_fillR hown (flat 3 HSegment.cell (List.replicate n default))).toP (g := flat 3 HSegment.cell (List.replicate n default))
  have hB1 : Mk0 w w1 := Mk.of_below ((Below.refl _ _).grown hgr (Nat.le_refl _) (fun k hk => by cases hk))
  have hsz1 : w.heap.size < w1.heap.size := (hown.lt _ rfl).2
  clear hown hgr hu
  go_loopw [13] (fun i wr => ∃ (k : Nat) (gs : List HSegment), k ≤ n ∧ i = .int .i64 k ∧ FillP wr w.heap.size (n * 3) (fun j => j < k * 3) (flat 3 HSegment.cell gs) ∧ gs.length = n ∧ Hid (Kids WSegment wr (w.heap.size + 1) wr.heap.size (fun q => q = w.heap.size) n gs ((List.range n).map fun q => if q < k then RR.getD q default else default)) ∧ Mk0 w wr ∧ w.heap.size < wr.heap.size) (fun i _ => n - (intOf i).toNat)
  case atStart =>
    refine ⟨0, List.replicate n default, Nat.zero_le _, rfl, hF.mono (fun j hj hq => by omega), by simp, ⟨fun _ => w.heap.size + 1, fun _ => w.heap.size + 1, fun i j _ _ _ => .inl (Nat.le_refl _), fun i hi => ⟨Nat.le_refl _, Nat.le_refl _, hsz1, fun b hb => .inl (by have hb2 : b = w.heap.size := hb; show b < w.heap.size + 1; omega), ?_⟩⟩, hB1, hsz1⟩
    rw [show (List.replicate n (default : HSegment)).getD i default = default by simp [List.getD_eq_getElem?_getD, hi], getD_map_range hi, if_neg (by omega)]
    exact own0Segment _ _
  case round =>
    clear hF hB1 hsz1
    obtain ⟨k, gs, hk, rfl, hF, hgl, hK, hM, hszr⟩ := hrel
    by_cases hlt : k < n
    · obtain ⟨b, off, x, rfl, hb, hx, a3, n3, c3, d0, d1, d2, hr, p1, p2, p3⟩ := HasSegment.at _ _ _ _ _ _ (h.mk hM hB (.inr (Nat.le_refl _))) hlt
      have hbr := World.block_lt_of_cell? _ _ d0
      simp only at hbr
      have HG := Lib.hid (show RR.getD k default = g x by rw [hRR.out, List.getD_eq_getElem?_getD, List.getElem?_map, List.getElem?_eq_getElem (show k < zs.length by rw [h.1]; exact hlt), hx.out, List.getD_eq_getElem?_getD, List.getElem?_eq_getElem (show k < zs.length by rw [h.1]; exact hlt)]; rfl)
      have hbd : n3 ≤ 1048576 := by have h1 := szSegment_at zs hlt; rw [← hx.out] at h1; unfold seSegment at h1; have h2 : x.hops.length = n3 := hr.1; omega
      have hml : k * 3 + 3 ≤ n * 3 := by have : (k + 1) * 3 ≤ n * 3 := Nat.mul_le_mul_right _ hlt; rw [Nat.succ_mul] at this; exact this
      have MX := Mk.alloc wr (Obj.cells #[Value.int .i64 x.ts, Value.int .i64 x.beta, Value.slice a3 n3 c3] 82)
      have hcl1 := HCL.out x a3 n3 c3 B (wr.alloc (Obj.cells #[Value.int .i64 x.ts, Value.int .i64 x.beta, Value.slice a3 n3 c3] 82)) ((hr.mk MX (Nat.le_trans hB hM.size) (.inr (Nat.le_refl _)))) (Nat.le_trans hB (hM.trans MX).size) hbd p1 p2 p3
      have hen := HEN.out x a3 n3 c3
      go_wp2_with fail
      refine hcl1.mono ?_
      rintro e w2 ⟨A3, N3, C3, rfl, hc3, hO3, m2⟩
      clear hcl1 hen
      rw [World.size_alloc] at hO3
      have mY := MX.trans m2
      have hF2 := hF.keep mY
      have hsz2 := m2.size
      rw [World.size_alloc] at hsz2
      obtain ⟨G, hG⟩ : ∃ G : HSegment, Hid (G = ⟨(g x).ts, (g x).beta, A3, N3, C3⟩) := ⟨_, Lib.hid rfl⟩
      have hcg : FillP w2 w.heap.size (n * 3) (fun j => j < k * 3) (flat 3 HSegment.cell (gs.set k G)) := fun j hj => by
        obtain ⟨v, v1, v2, v3⟩ := hF2 j hj
        refine ⟨v, v1, v2, fun hq => ?_⟩
        rw [v3 hq]
        unfold flat
        rw [getD_set_off (show j / 3 ≠ k from fun e => by have h1 := Nat.div_add_mod j 3; rw [e] at h1; have h2 := Nat.mod_lt j (show 0 < 3 by decide); simp only at hq; omega)]
      clear hF2 hF
      obtain ⟨v0, p0', f0⟩ := hcg.any (j := k * 3) (by omega)
      obtain ⟨v1, p1', f1⟩ := hcg.any (j := k * 3 + 1) (by omega)
      obtain ⟨v2, p2', f2⟩ := hcg.any (j := k * 3 + 2) (by omega)
      have hKx : WSegment.kid w2 (wr.heap.size + 1) w2.heap.size G (g x) := by rw [hG.out]; exact ⟨rfl, rfl, hO3, hc3.2.1, hc3.2.2, hc3.1⟩
      have hK2 := ((hK.out.mk mY (Nat.le_refl _) (.inr (.inr (Nat.le_refl _)))).upd hlt hgl (by simp) (by omega) hsz2 hKx (by omega) (fun b hb => .inl (by have hb2 : b = w.heap.size := hb; omega)))
      have hLs : ((List.range n).map fun q => if q < k + 1 then RR.getD q default else default) = (((List.range n).map fun q => if q < k then RR.getD q default else default)).set k (g x) := by
        refine List.ext_getElem (by simp) fun q h1 h2 => ?_
        simp only [List.getElem_set, List.getElem_map, List.getElem_range]
        by_cases e : k = q
        · subst e; rw [if_pos rfl, if_pos (by omega), HG.out]
        · rw [if_neg e]
          by_cases e2 : q < k
          · rw [if_pos e2, if_pos (by omega)]
          · rw [if_neg e2, if_neg (by omega)]
      clear hKx hK hO3
      go_wp2_with fail
      go_roundw
      case rel =>
        refine ⟨k + 1, gs.set k G, by omega, by go_num, (((hcg.set (m := k * 3) (by omega) (by rw [show k * 3 = k * 3 + 0 from rfl, flat_at (gs.set k G) k 0 (by omega), getD_set_at (by omega), hG.out]; rfl)).set (m := k * 3 + 1) (by omega) (by rw [flat_at (gs.set k G) k 1 (by omega), getD_set_at (by omega), hG.out]; rfl)).set (m := k * 3 + 2) (by omega) (by rw [flat_at (gs.set k G) k 2 (by omega), getD_set_at (by omega), hG.out]; rfl)).mono (fun j hj hq => ?_), by rw [List.length_set]; exact hgl, ?_, (((hM.trans mY).put _ _ (Nat.le_refl _)).put _ _ (Nat.le_refl _)).put _ _ (Nat.le_refl _), by simp only [World.size_set]; omega⟩
        · first | (simp only at hq ⊢; rw [Nat.succ_mul] at hq; omega) | (rw [Nat.succ_mul] at hq; omega) | omega
        · rw [hLs]
          exact Lib.hid ((((hK2.set _ _ (.inl rfl)).set _ _ (.inl rfl)).set _ _ (.inl rfl)).wide (Nat.le_refl _) (by simp only [World.size_set]; exact Nat.le_refl _))
      case measure => simp [intOf]; omega
    · obtain rfl : k = n := by omega
      go_wp2_with fail
      go_ret
      have hA := (hF.mono (q := fun _ => True) (fun j hj _ => by exact hj)).all
      have hL : ((List.range k).map fun q => if q < k then RR.getD q default else default) = RR := by
        refine List.ext_getElem (by simp [hRl]) fun q h1 h2 => ?_
        simp only [List.getElem_map, List.getElem_range]
        rw [if_pos (by simpa using h1), List.getD_eq_getElem?_getD, List.getElem?_eq_getElem h2]
        rfl
      rw [hL] at hK
      refine ⟨_, k, k, rfl, ⟨(fun h => by cases h), Nat.le_refl _, by omega⟩, ?_, hM⟩
      exact (OwnN.of_own (hA.ownR (nc := 3) (cell := HSegment.cell) hgl (fun i hi j hj => flat_at _ _ _ hj) (Nat.le_refl _) (Nat.lt_succ_self _) (by decide)) ⟨Nat.le_refl _, hszr⟩ (hK.out.wide (Nat.le_succ _) (Nat.le_refl _)) hRl)

end Go.Proofs.Ytdlafigjkefllaa
