/- A chain undone from its end, by the program and by the model. -/
import Derived.Test.YtoikcfakailegaaKp
import Derived.Test.YtoikcfakailegaaChain
import Derived.Maps.OwnIn
import Derived.Laws.EntriesVeiled
namespace Go.Proofs.Ytoikcfakailegaa
open Go Go.Proofs Go.RowKit Go.Shelf Go.ChangeShapes Go.WideShapes Go.ChangeAt
set_option linter.unusedVariables false
attribute [local go_sem] Oper.semAt_some
def bwL (zs : List Int) (n : Nat) : Nat → List (Int × Int)
  | 0 => []
  | k + 1 => bwL zs n k ++ [(((n - 1 - k : Nat) : Int), zs.getD (n - 1 - k) 0)]
def csL (b : Int) (pre : List (Int × Int)) : Int := pre.foldl (fun x p => subM x p.2) b
theorem csL_snoc (b : Int) (pre : List (Int × Int)) (p : Int × Int) : csL b (pre ++ [p]) = subM (csL b pre) p.2 := by simp [csL]
theorem bwL_len (zs : List Int) (n : Nat) : ∀ k, (bwL zs n k).length = k
  | 0 => rfl
  | k + 1 => by simp [bwL, bwL_len zs n k]
theorem bwL_pre (zs : List Int) (n k : Nat) : ∀ m, k ≤ m → bwL zs n k <+: bwL zs n m
  | 0, h => by obtain rfl : k = 0 := by omega
               exact List.prefix_refl _
  | m + 1, h => by
    by_cases e : k = m + 1
    · rw [e]; exact List.prefix_refl _
    · exact (bwL_pre zs n k m (by omega)).trans (List.prefix_append _ _)

set_option maxRecDepth 100000 in
set_option maxHeartbeats 2000000 in
theorem backward_in (a : Option Addr) (n c : Nat) (w : World) :
    CallsIn Fence.wide 5 Try.prog 59 #[.slice a n c] w fun e w' => e = .returned (.func (.func 66) #[] #[.pointer (some ⟨w.heap.size, 0, none⟩)]) ∧ w' = w.alloc (.cells #[.slice a n c] 27) := by
  refine callsIn_of_wp Try.func59 rfl trivial ?_ rfl
  simp only [Try.ntmps59, List.size_toArray, List.length_cons, List.length_nil, Nat.reduceAdd, Nat.reduceSub, Array.replicate_succ, Array.replicate_zero, List.push_toArray, List.append_toArray, List.nil_append, List.cons_append]
  gi_wp2
  go_ret
  exact ⟨rfl, rfl⟩

set_option maxRecDepth 100000 in
set_option maxHeartbeats 4000000 in
theorem backward1_in (l Bn n₀ : Nat) (a : Option Addr) (n c : Nat) (zs : List Int) (J Jx : List (Int × Int) → World → Prop) (hn : n ≤ 1073741824)
    (hY : ∀ pre x W, J pre W → pre.length < n → YieldAt Fence.wide 4 Try.prog l #[.int .i64 x.1, .int .i64 x.2] W fun e W' =>
      (e = .returned (.bool true) ∧ J (pre ++ [x]) W' ∧ KpC Bn n₀ W W') ∨ (e = .returned (.bool false) ∧ Jx (pre ++ [x]) W'))
    (W : World) (hBn : W.cell? ⟨Bn, 0, none⟩ = some (.slice a n c)) (hH : Has .i64 W n₀ a n zs) (h0 : J [] W) :
    CallsIn Fence.wide 5 Try.prog 66 #[.func (.yield l) #[] #[], .pointer (some ⟨Bn, 0, none⟩)] W fun e W' => (∃ v, e = .returned v) ∧
      ((∃ ys, ys = bwL zs n n ∧ J ys W') ∨ (∃ pre, pre <+: bwL zs n n ∧ Jx pre W')) := by
  refine callsIn_of_wp Try.func66 rfl trivial ?_ rfl
  simp only [Try.ntmps66, List.size_toArray, List.length_cons, List.length_nil, Nat.reduceAdd, Nat.reduceSub, Array.replicate_succ, Array.replicate_zero, List.push_toArray, List.append_toArray, List.nil_append, List.cons_append]
  gi_wp2
  gi_loopw [3] (fun i wr => ∃ k : Nat, k ≤ n ∧ i = .int .i64 ((n : Int) - 1 - k) ∧ wr.cell? ⟨Bn, 0, none⟩ = some (.slice a n c) ∧ Has .i64 wr n₀ a n zs ∧ J (bwL zs n k) wr) (fun i _ => (intOf i + 1).toNat)
  case atStart => exact ⟨0, by omega, by simp, hBn, hH, h0⟩
  case round =>
    obtain ⟨k, hk, rfl, hB, hH, hJ⟩ := hrel
    by_cases hlt : k < n
    · obtain ⟨b, off, z, rfl, hb, hz, hc⟩ := hH.at_ (i := n - 1 - k) (by omega)
      have hi : (n : Int) - 1 - k = ((n - 1 - k : Nat) : Int) := by omega
      have he : bwL zs n (k + 1) = bwL zs n k ++ [(((n - 1 - k : Nat) : Int), z)] := by rw [hz.out]; rfl
      have hl := bwL_len zs n k
      obtain ⟨fn, tmps, assign, body, hy, hR⟩ := hY (bwL zs n k) ((((n - 1 - k : Nat) : Int)), z) wr hJ (by omega)
      have HE := Lib.hid he
      clear he hl
      obtain ⟨j, hj⟩ : ∃ j, j = n - 1 - k := ⟨_, rfl⟩
      rw [← hj] at hc hi hy hR
      rw [hi]
      dsimp only at hy
      have HJ := Lib.hid hj
      clear hj
      gi_wp2
      refine hR.mono ?_
      rintro e W3 (⟨rfl, hJ3, hk3⟩ | ⟨rfl, hJx3⟩)
      · have hB3 := hk3.cell.trans hB
        have hH3 := hH.below hk3.1
        gi_wp2
        go_roundw
        case rel => exact ⟨k + 1, by omega, congrArg (Value.int .i64) (by have := HJ.out; omega), hB3, hH3, by rw [HE.out, ← HJ.out]; exact hJ3⟩
        case measure => simp [intOf]
      · gi_wp2
        refine bodyPost_ret (results_none rfl _ _ _) rfl ?_
        exact ⟨⟨_, rfl⟩, .inr ⟨bwL zs n k ++ [((j : Int), z)], by rw [HJ.out, ← HE.out]; exact bwL_pre zs n (k + 1) n (by omega), hJx3⟩⟩
    · obtain rfl : k = n := by omega
      have hi : (k : Int) - 1 - k = -1 := by omega
      rw [hi]
      gi_wp2
      go_end0
      exact ⟨⟨_, rfl⟩, .inl ⟨bwL zs k k, rfl, hJ⟩⟩

theorem backward_stops (Bn n₀ : Nat) (a : Option Addr) (n c : Nat) (zs : List Int) (w : World) (hn : n ≤ 1073741824) (hBn : Bn < w.heap.size) (hn₀ : n₀ ≤ w.heap.size) (hc : w.cell? ⟨Bn, 0, none⟩ = some (.slice a n c)) (hH : Has .i64 w n₀ a n zs) :
    SeqStopsK Fence.wide 5 Try.prog 66 #[.pointer (some ⟨Bn, 0, none⟩)] (fun x : Int × Int => #[Value.int .i64 x.1, Value.int .i64 x.2]) (KpC Bn n₀) (fun ys => ys = bwL zs n n) (fun pre => pre <+: bwL zs n n) n w := fun l J Jx W hW _ _ hY h0 =>
  backward1_in l Bn n₀ a n c zs J Jx hn hY W ((hW.cell (p := ⟨Bn, 0, none⟩) hBn).trans hc) (hH.below (hW.mono hn₀)) h0

set_option maxRecDepth 100000 in
set_option maxHeartbeats 800000 in
theorem undo_any (B : Nat) (x z : Int) (w : World) (hc : w.cell? ⟨B, 0, none⟩ = some (.int .i64 x)) (hf : w.frozen? ⟨B, 0, none⟩ = false) :
    Calls Try.prog 58 #[.int .i64 z, .pointer (some ⟨B, 0, none⟩)] w fun e w' => e = .returned (.tuple #[]) ∧ w' = w.setCell ⟨B, 0, none⟩ (.int .i64 (subM x z)) := by
  go_enter Try.func58, Try.ntmps58
  go_wp2_with fail
  refine (implSubMod _ _ _).mono ?_
  rintro e w1 ⟨rfl, rfl⟩
  go_wp2_with fail
  go_end0
  exact ⟨rfl, rfl⟩

set_option maxRecDepth 100000 in
set_option maxHeartbeats 4000000 in
theorem chainSub_in (x : Int) (a : Option Addr) (n c : Nat) (zs : List Int) (w : World) (h : Has .i64 w w.heap.size a n zs) (hn : n ≤ 1073741824) :
    CallsIn Fence.wide 6 Try.prog 39 #[.int .i64 x, .slice a n c] w fun e w' => e = .returned (.int .i64 (csL x (bwL zs n n))) ∧ Below w.heap.size w w' := by
  refine callsIn_of_wp_marks Try.func39 rfl trivial ?_ rfl
  simp only [Try.ntmps39, List.size_toArray, List.length_cons, List.length_nil, Nat.reduceAdd, Nat.reduceSub, Array.replicate_succ, Array.replicate_zero, List.push_toArray, List.append_toArray, List.nil_append, List.cons_append]
  gi_wp2_with (refine ⟨trivial, ?_⟩; gi_at_call 59; refine (backward_in _ _ _ _).mono ?_; rintro e w' ⟨rfl, rfl⟩)
  have cx := cellNew w (.int .i64 x) 3
  have cf := cellNew (w.alloc (.cells #[.int .i64 x] 3)) (.func (.func 58) #[] #[.pointer (some ⟨w.heap.size, 0, none⟩)]) 51
  have cb := cellNew ((w.alloc (.cells #[.int .i64 x] 3)).alloc (.cells #[.func (.func 58) #[] #[.pointer (some ⟨w.heap.size, 0, none⟩)]] 51)) (.slice a n c) 27
  simp only [World.size_alloc] at cf cb
  have hB0 : Below w.heap.size w (((w.alloc (.cells #[.int .i64 x] 3)).alloc (.cells #[.func (.func 58) #[] #[.pointer (some ⟨w.heap.size, 0, none⟩)]] 51)).alloc (.cells #[.slice a n c] 27)) := (((Below.refl _ w).alloc (Nat.le_refl _) _).alloc (by simp) _).alloc (by simp; omega) _
  refine wpIn_rangeFunc_ownF rfl (by decide) (gf := 66) (lb := #[.pointer (some ⟨w.heap.size + 1 + 1, 0, none⟩)]) rfl trivial (enters_of Try.func66 (by kernel_rfl) rfl)
    (backward_stops (w.heap.size + 1 + 1) w.heap.size a n c zs _ hn (by simp) (by simp; omega) cb.1 (h.below hB0)) KpC.t (KpC.b (by simp; omega) (by simp)) (Below.refl _ _) (fun _ => rfl)
    (fun (pre : List (Int × Int)) W => ((W.cell? ⟨w.heap.size, 0, none⟩ = some (.int .i64 (csL x pre)) ∧ W.frozen? ⟨w.heap.size, 0, none⟩ = false) ∧ W.cell? ⟨w.heap.size + 1, 0, none⟩ = some (.func (.func 58) #[] #[.pointer (some ⟨w.heap.size, 0, none⟩)])) ∧ Below w.heap.size w W)
    (fun _ _ _ => False)
    (OwnFrom.and (Own.from (fun s A B row hs hg hr => ⟨⟨cell_kept hs.1.1 hg hr, (frozen_kept hs.1.1 hg hr).trans hs.1.2⟩, cell_kept hs.2 hg hr⟩) _) (ownFrom_below (Nat.le_refl _) (by simp; omega)))
    (fun _ _ _ _ _ hs _ _ => hs)
    ⟨⟨⟨cellKeep _ (cellKeep _ cx.1), frozenKeep _ (cellKeep _ cx.1) (frozenKeep _ cx.1 cx.2)⟩, cellKeep _ cf.1⟩, hB0⟩
    (fun p => { tmps := #[.int .i64 x, .slice a n c, .pointer (some ⟨w.heap.size, 0, none⟩), undef, .int .i64 0, .pointer (some ⟨w.heap.size + 1, 0, none⟩), undef, .int .i64 p.2, .func (.func 58) #[] #[.pointer (some ⟨w.heap.size, 0, none⟩)], .slice a n c, .func (.func 66) #[] #[.pointer (some ⟨w.heap.size + 1 + 1, 0, none⟩)], .int .i64 p.1, .int .i64 p.2, undef, undef, undef, undef], defers := [] }) ?assign ?body ?done ?stop
  case assign =>
    intro l x W K hK
    gi_wp2
    exact hK
  case body =>
    rintro l pre p W ⟨⟨⟨hc, hf⟩, hfn⟩, hB⟩ hlt
    gi_wp2_with (refine ⟨trivial, ?_⟩; gi_at_call 58; refine (CallsIn.inRound l (callsIn_wide.2 (undo_any _ _ _ _ hc hf))).mono ?_; rintro e w' ⟨rfl, rfl⟩)
    refine ⟨KeepsOthers.setCell _ _ _, ⟨(Below.refl w.heap.size W).setCell (p := ⟨w.heap.size, 0, none⟩) (Nat.le_refl _) _, Below.heap_setCell _ _ _ _ (by simp; omega)⟩, ⟨⟨?_, by rw [World.frozen?_setCell]; exact hf⟩, ?_⟩, hB.setCell (p := ⟨w.heap.size, 0, none⟩) (Nat.le_refl _) _⟩
    · rw [csL_snoc]
      exact World.cell?_setCell_same' W ⟨w.heap.size, 0, none⟩ _ (by rw [hc]; rfl)
    · rw [World.cell?_setCell_other _ _ _ _ (fun h => by simp only [Addr.mk.injEq] at h; omega)]
      exact hfn
  case done =>
    rintro D ys W hD rfl ⟨⟨⟨hc, _⟩, _⟩, hB⟩ hK
    gi_wp2
    refine ⟨by simp, .inl ⟨_, _, rfl, run_takeDeferred hK, ?_⟩⟩
    exact ⟨_, results_tmp rfl _ _ _, rfl, hB.trans (belowK_b (w := w) (Nat.le_refl _) W D _ _ (by simp at hD; omega) hK rfl rfl)⟩
  case stop =>
    rintro D c pre W _ _ h _
    exact h.elim

theorem implChainSub (x : Int) (a : Option Addr) (n c : Nat) (zs : List Int) (w : World) (h : Has .i64 w w.heap.size a n zs) (hn : n ≤ 1073741824) :
    Calls Try.prog 39 #[.int .i64 x, .slice a n c] w fun e w' => e = .returned (.int .i64 (csL x (bwL zs n n))) ∧ Below w.heap.size w w' :=
  callsIn_wide.1 (chainSub_in x a n c zs w h hn)

set_option maxRecDepth 100000 in
set_option maxHeartbeats 800000 in
theorem specChainSub (x : Int) (a : Option Addr) (n c B : Nat) (zs : List Int) (w : World) (h : Has .i64 w B a n zs) (hn : n ≤ 1073741824) :
    Calls Try.prog 40 #[.int .i64 x, .slice a n c] w fun e w' => e = .returned (.int .i64 (csL x (bwL zs n n))) ∧ w = w' := by
  go_enter Try.func40, Try.ntmps40
  go_wp2
  go_loop [0, 5] (fun s i => ∃ k : Nat, k ≤ n ∧ i = .int .i64 ((n : Int) - 1 - k) ∧ s = .int .i64 (csL x (bwL zs n k))) (fun _ i => (intOf i + 1).toNat)
  case atStart => exact ⟨0, Nat.zero_le _, by simp, rfl⟩
  case round =>
    obtain ⟨k, hk, rfl, rfl⟩ := hrel
    by_cases hlt : k < n
    · obtain ⟨b, off, z, rfl, hb, hz, hc⟩ := h.at_ (i := n - 1 - k) (by omega)
      have hi : (n : Int) - 1 - k = ((n - 1 - k : Nat) : Int) := by omega
      have hst : csL x (bwL zs n (k + 1)) = subM (csL x (bwL zs n k)) z := by rw [bwL, csL_snoc, hz.out]
      have HST := Lib.hid hst
      clear hst
      obtain ⟨j, hj⟩ : ∃ j, j = n - 1 - k := ⟨_, rfl⟩
      rw [← hj] at hc hi
      rw [hi]
      have HJ := Lib.hid hj
      clear hj
      go_wp2_with fail
      refine (specSubMod _ _ _).mono ?_
      rintro e w1 ⟨rfl, rfl⟩
      go_wp2_with fail
      go_round
      case rel => exact ⟨k + 1, by omega, congrArg (Value.int .i64) (by have := HJ.out; omega), by rw [HST.out]⟩
      case measure => simp [intOf]
    · obtain rfl : k = n := by omega
      have hi : (k : Int) - 1 - k = -1 := by omega
      rw [hi]
      go_wp2
      go_ret
      exact ⟨rfl, rfl⟩
end Go.Proofs.Ytoikcfakailegaa
