
/- Message: rows of one's own by content. -/
import Derived.Test.YtdlafigjkefllaaOwnN
import Derived.Test.YtdlafigjkefllaaNMessage
import Derived.Test.YtdlafigjkefllaaByteR
import Derived.Test.YtdlafigjkefllaaTurn
import Derived.Test.YtdlafigjkefllaaAppRun
import Derived.Laws.IdiomCopy
import Derived.Lib.SlBuf
import Derived.Test.YtdlafigjkefllaaNInbox
import Derived.Test.YtdlafigjkefllaaOwnP
import Derived.Test.YtdlafigjkefllaaFhG
import Derived.Test.YtdlafigjkefllaaWs
import Derived.Test.YtdlafigjkefllaaCPacket
import Derived.Test.YtdlafigjkefllaaCInbox
import Derived.ArgAppend
namespace Go.Proofs.Ytdlafigjkefllaa
open Go.ChangeShapes Go.WideShapes Go.ChangeAt Go.RowKit
set_option linter.unusedVariables false
abbrev mklByte (k : Int) (n : Nat) : List TByte := marks bwrap k n
theorem mklByte_len (k : Int) (n : Nat) : (mklByte k n).length = n := marks_length _ _ _
structure HMessage where  (a : Option Addr) (n : Nat) (c : Nat)
instance : Inhabited HMessage := ⟨⟨none, 0, 0⟩⟩
def HMessage.cell (g : HMessage) : Nat → Value
  | _ => .slice g.a g.n g.c
def WMessage : Kd HMessage TMessage where
  nc := 1
  pos := by decide
  cell := HMessage.cell
  kid := fun w lo hi g x => OwnByte w lo hi g.a g.n x.data ∧ g.n ≤ g.c ∧ g.c ≤ 9223372036854775807 ∧ (g.a = none → g.c = 0)
  kid_mk := by
    intro lo hi lo' hi' w w' g x h m hB hr
    obtain ⟨o, p1, p2, p3⟩ := h
    exact ⟨o.mk m hB hr, p1, p2, p3⟩
  kid_set := by
    intro lo hi w g x h p u hp
    obtain ⟨o, p1, p2, p3⟩ := h
    exact ⟨o.set p u hp, p1, p2, p3⟩
  kid_wide := by
    intro lo hi lo' hi' w g x h hl hh
    obtain ⟨o, p1, p2, p3⟩ := h
    exact ⟨o.wide hl hh, p1, p2, p3⟩
/-- The numbers that an element holds. -/
def totMessage (x : TMessage) : Nat := 0 + 1 * x.data.length
def mkeMessage (k : Int) (x : TMessage) : TMessage := ⟨mklByte (k) x.data.length⟩
def mkMessage (k : Int) (zs : List TMessage) (n : Nat) : List TMessage := (List.range n).map fun i => mkeMessage (k + ((sumTo totMessage zs i : Nat) : Int)) (zs.getD i default)
theorem mkMessage_len (k : Int) (zs : List TMessage) (n : Nat) : (mkMessage k zs n).length = n := by simp [mkMessage]
theorem mkMessage_at (k : Int) (zs : List TMessage) {n i : Nat} (h : i < n) : (mkMessage k zs n).getD i default = mkeMessage (k + ((sumTo totMessage zs i : Nat) : Int)) (zs.getD i default) := getD_map_range h
theorem OwnN.hasMessage {w : World} {lo hi n : Nat} {a : Option Addr} {ts : List TMessage} (h : OwnN WMessage w lo hi a n ts) : HasMessage w hi a n ts := by
  obtain ⟨hl, gs, b, ho, hb, l, r, hap, hk⟩ := h
  refine ⟨hl, fun hn => ?_⟩
  obtain ⟨b', off, rfl, hb1, hb2, hc⟩ := ho.2 hn
  have hbb := hb hn
  refine ⟨b', off, rfl, by omega, fun i hi => ?_⟩
  obtain ⟨g1, g2, g3, g4, o, p1, p2, p3⟩ := hk i hi
  have c0 := (hc (i * 1 + 0) (flat_le (nc := 1) hi (by decide))).1
  rw [show flat WMessage.nc WMessage.cell gs (i * 1 + 0) = HMessage.cell (gs.getD i default) 0 from flat_at _ i 0 (by decide)] at c0
  generalize gs.getD i default = g at *
  refine ⟨g.a, g.n, g.c, c0, (o.has).mono (by omega), p1, p2, p3⟩
def mhMessage (gs : List HMessage) (zs : List TMessage) (kz : Int) (k n : Nat) : List HMessage := (List.range n).map fun i => if i < k then ⟨(gs.getD i default).a, (gs.getD i default).n, (gs.getD i default).c⟩ else gs.getD i default
def mzMessage (zs : List TMessage) (kz : Int) (k n : Nat) : List TMessage := (List.range n).map fun i => if i < k then mkeMessage (kz + ((sumTo totMessage zs i : Nat) : Int)) (zs.getD i default) else zs.getD i default
theorem mhMessage_at (gs : List HMessage) (zs : List TMessage) (kz : Int) (k : Nat) {n i : Nat} (h : i < n) : (mhMessage gs zs kz k n).getD i default = if i < k then ⟨(gs.getD i default).a, (gs.getD i default).n, (gs.getD i default).c⟩ else gs.getD i default := getD_map_range h
theorem mzMessage_at (zs : List TMessage) (kz : Int) (k : Nat) {n i : Nat} (h : i < n) : (mzMessage zs kz k n).getD i default = if i < k then mkeMessage (kz + ((sumTo totMessage zs i : Nat) : Int)) (zs.getD i default) else zs.getD i default := getD_map_range h
structure StMessage (gs : List HMessage) (zs : List TMessage) (kz : Int) (n b off : Nat) (l r : Nat → Nat) (k : Nat) (w : World) : Prop where
  cl : Cl w b off (n * 1) (flat 1 HMessage.cell (mhMessage gs zs kz k n))
  kid : ∀ i, i < n → WMessage.kid w (l i) (r i) ((mhMessage gs zs kz k n).getD i default) ((mzMessage zs kz k n).getD i default)
theorem StMessage.start {gs : List HMessage} {zs : List TMessage} {n b off : Nat} {l r : Nat → Nat} {w : World} (kz : Int) (hc : Cl w b off (n * 1) (flat 1 HMessage.cell gs)) (hk : ∀ i, i < n → WMessage.kid w (l i) (r i) (gs.getD i default) (zs.getD i default)) : StMessage gs zs kz n b off l r 0 w := by
  refine ⟨hc.congr (flat_congr (by decide) fun i hi q hq => ?_), fun i hi => ?_⟩
  · rw [flat_at _ i q hq, mhMessage_at gs zs kz 0 hi, if_neg (by omega)]
  · rw [mhMessage_at gs zs kz 0 hi, mzMessage_at zs kz 0 hi, if_neg (by omega), if_neg (by omega)]
    exact hk i hi
theorem StMessage.next {gs : List HMessage} {zs : List TMessage} {kz : Int} {n b off : Nat} {l r : Nat → Nat} {k : Nat} {w w' : World} (h : StMessage gs zs kz n b off l r k w) (hlt : k < n) (hap : Apart l r n) (hq : ∀ i, i < n → b < l i ∨ r i ≤ b) (hr : ∀ i, i < n → r i ≤ w.heap.size)
    (m : Mk (l k) (r k) w w') (ho : OwnByte w' (l k) (r k) (gs.getD k default).a (gs.getD k default).n (mkeMessage (kz + ((sumTo totMessage zs k : Nat) : Int)) (zs.getD k default)).data) : StMessage gs zs kz n b off l r (k + 1) w' := by
  have hz : w.heap.size = w.heap.size := rfl
  have hC := h.cl
  refine ⟨(hC.mk m (hq k hlt)).congr (flat_congr (by decide) fun i hi q hq' => ?_), fun i hi => ?_⟩
  · rw [mhMessage_at gs zs kz (k + 1) hi]
    have hf : flat 1 HMessage.cell (mhMessage gs zs kz k n) (i * 1 + q) = HMessage.cell ((mhMessage gs zs kz k n).getD i default) q := flat_at _ i q hq'
    rw [mhMessage_at gs zs kz k hi] at hf
    by_cases e : i = k
    · subst e
      rw [if_pos (show i < i + 1 by omega)]
      rw [if_neg (show ¬ i < i by omega)] at hf
      match q, hq' with
      | 0, _ => rw [hf] <;> rfl
    · rw [hf]
      by_cases e2 : i < k
      · rw [if_pos e2, if_pos (show i < k + 1 by omega)]
      · rw [if_neg e2, if_neg (show ¬ i < k + 1 by omega)]
  · rw [mhMessage_at gs zs kz (k + 1) hi, mzMessage_at zs kz (k + 1) hi]
    have hk1 := (h.kid i hi)
    rw [mhMessage_at gs zs kz k hi, mzMessage_at zs kz k hi] at hk1
    by_cases e : i = k
    · subst e
      rw [if_pos (show i < i + 1 by omega), if_pos (show i < i + 1 by omega)]
      rw [if_neg (show ¬ i < i by omega), if_neg (show ¬ i < i by omega)] at hk1
      obtain ⟨o, p1, p2, p3⟩ := hk1
      exact ⟨ho, p1, p2, p3⟩
    · have hk2 := WMessage.kid_mk hk1 m (by rw [hz]; exact hr i hi) (by have := hap i k hi hlt e; omega)
      by_cases e2 : i < k
      · rw [if_pos e2, if_pos e2] at hk2
        rw [if_pos (show i < k + 1 by omega), if_pos (show i < k + 1 by omega)]
        exact hk2
      · rw [if_neg e2, if_neg e2] at hk2
        rw [if_neg (show ¬ i < k + 1 by omega), if_neg (show ¬ i < k + 1 by omega)]
        exact hk2
set_option maxRecDepth 100000 in
set_option maxHeartbeats 4000000 in
theorem markMessageW (a : Option Addr) (n c lo hi : Nat) (kz : Int) (zs : List TMessage) (w : World) (h : OwnN WMessage w lo hi a n zs) (hn : n ≤ 2097152) (ht : sumTo totMessage zs n ≤ 2097152) (h0 : 0 ≤ kz) (h1 : kz ≤ 1073741824) (hh : hi ≤ w.heap.size) :
    Calls Try.prog 68 #[.slice a n c, .int .i64 kz] w fun e w' => e = .returned (.int .i64 (kz + ((sumTo totMessage zs n : Nat) : Int))) ∧ OwnN WMessage w' lo hi a n (mkMessage kz zs n) ∧ Mk lo hi w w' := by
  by_cases hz : n = 0
  · subst hz
    go_enter Try.func68, Try.ntmps68
    go_wp2
    refine wp_loop_rounds 1 ?_; rw [rounds_succ]
    go_wp2
    go_ret
    exact ⟨by simp [sumTo], OwnN.none_ _ _ _ _ _, Mk.refl _ _ _⟩
  · obtain ⟨hlen, gs, b, ho, hb, l, r, hap, hk⟩ := h
    obtain ⟨b', off, rfl, hb1, hb2, _⟩ := ho.2 (by omega)
    obtain rfl : b = b' := by omega
    obtain ⟨hlb, hbh⟩ := hb (by omega)
    have hAP := Lib.hid hap
    have hRG := Lib.hid (show ∀ i, i < n → lo ≤ l i ∧ l i ≤ r i ∧ r i ≤ hi ∧ (b < l i ∨ r i ≤ b) from fun i hi => ⟨(hk i hi).1, (hk i hi).2.1, (hk i hi).2.2.1, (hk i hi).2.2.2.1 b ⟨by omega, rfl⟩⟩)
    have hS := StMessage.start (l := l) (r := r) kz (ho.cl (by omega)) (fun i hi => (hk i hi).2.2.2.2)
    have HT := Lib.hid ht
    clear hk hap ho hb ht
    go_enter Try.func68, Try.ntmps68
    go_wp2
    go_loopw [1, 5] (fun q i wr => ∃ k : Nat, k ≤ n ∧ i = .int .i64 k ∧ q = .int .i64 (kz + ((sumTo totMessage zs k : Nat) : Int)) ∧ Hid (StMessage gs zs kz n b off l r k wr) ∧ Mk lo hi w wr) (fun _ i _ => n - (intOf i).toNat)
    case atStart => exact ⟨0, Nat.zero_le _, rfl, by simp [sumTo], hS, Mk.refl _ _ _⟩
    case round =>
      clear hS
      obtain ⟨k, hk, rfl, rfl, hS, hM⟩ := hrel
      have hs1 := sumTo_le totMessage zs hk
      obtain ⟨V, hV⟩ : ∃ V, Hid (V = sumTo totMessage zs k) := ⟨_, Lib.hid rfl⟩
      have hVb : V ≤ 2097152 := by rw [hV.out]; exact Nat.le_trans hs1 HT.out
      clear hs1
      rw [← hV.out]
      by_cases hlt : k < n
      · have hT := sumTo_at totMessage zs hlt
        rw [← hV.out] at hT
        have hC := hS.out.cl
        have hK := hS.out.kid k hlt
        rw [mhMessage_at gs zs kz k hlt, mzMessage_at zs kz k hlt, if_neg (by omega), if_neg (by omega)] at hK
        have c0 := hC (k * 1 + 0) (flat_le (nc := 1) hlt (by decide))
        rw [flat_at _ k 0 (by decide), mhMessage_at gs zs kz k hlt, if_neg (by omega)] at c0
        rw [Nat.add_zero] at c0
        obtain ⟨G, hG⟩ : ∃ G, Hid (G = gs.getD k default) := ⟨_, Lib.hid rfl⟩
        obtain ⟨X, hX⟩ : ∃ X, Hid (X = zs.getD k default) := ⟨_, Lib.hid rfl⟩
        rw [← hG.out, ← hX.out] at hK
        rw [← hX.out] at hT
        rw [← hG.out] at c0
        obtain ⟨d0, f0⟩ := c0
        rw [Nat.mul_one] at d0 f0
        replace d0 : wr.cell? ⟨b, off + k, none⟩ = some (.slice G.a G.n G.c) := d0
        obtain ⟨OK, P1, P2, P3⟩ := hK
        have hOl := OK.1
        have hVs := Lib.hid (show sumTo totMessage zs (k + 1) = V + totMessage X by rw [sumTo, ← hV.out, hX.out])
        have hTT := Lib.hid (show totMessage X = 0 + 1 * X.data.length from rfl)
        rw [hTT.out] at hT
        have hTb := Nat.le_trans hT HT.out
        clear hT
        have hRk := hRG.out k hlt
        have HE := Lib.hid (show kz + ((sumTo totMessage zs k : Nat) : Int) = kz + (V : Int) by rw [hV.out])
        have hkn : k + 1 ≤ n := by omega
        have hO3 := OK
        have hMM := hM
        have hz3 : wr.heap.size = wr.heap.size := rfl
        have hsz := hM.size
        go_wp2_with fail
        refine (markByteM G.a G.n G.c (l k) (r k) (kz + (V : Int)) X.data _ hO3 (by omega) (by omega) (by omega)).mono ?_
        rintro e w2 ⟨rfl, ho2, m2⟩
        have hM2 := hMM.trans (m2.wide (.inr ⟨hRk.1, hRk.2.2.1⟩))
        have hm2 : Mk (l k) (r k) wr w2 := by
          try rw [HE.out]
          exact m2
        have ho3 : OwnByte w2 (l k) (r k) (gs.getD k default).a (gs.getD k default).n (mkeMessage (kz + ((sumTo totMessage zs k : Nat) : Int)) (zs.getD k default)).data := by
          rw [← hG.out, ← hX.out, HE.out]
          show OwnByte w2 (l k) (r k) G.a G.n (mklByte (kz + (V : Int)) X.data.length)
          rw [hOl]
          exact ho2
        have hS2 := Lib.hid (hS.out.next hlt hAP.out (fun i hi => (hRG.out i hi).2.2.2) (fun i hi => by have := (hRG.out i hi).2.2.1; omega) hm2 ho3)
        clear hm2 ho3 ho2
        go_wp2_with fail
        go_roundw
        case rel => exact ⟨k + 1, hkn, by go_num, congrArg (Value.int .i64) (by rw [hVs.out, hTT.out, hOl]; omega), hS2, hM2⟩
        case measure => simp [intOf]; omega
      · obtain rfl : k = n := by omega
        have hfin : OwnN WMessage wr lo hi (some ⟨b, off, none⟩) k (mkMessage kz zs k) := by
          refine OwnN.of_own (gs := mhMessage gs zs kz k k) (OwnR.of_cl (nc := 1) (cell := HMessage.cell) (by simp [mhMessage]) hS.out.cl) ⟨hlb, hbh⟩ ⟨l, r, hAP.out, fun i hi => ?_⟩ (mkMessage_len _ _ _)
          obtain ⟨g1, g2, g3, g4⟩ := hRG.out i hi
          refine ⟨g1, g2, g3, fun q hq => by subst hq; exact g4, ?_⟩
          have := hS.out.kid i hi
          rw [mkMessage_at _ _ hi]
          rwa [mzMessage_at zs kz k hi, if_pos hi] at this
        go_wp2_with fail
        go_ret
        exact ⟨retI (by rw [hV.out]), hfin, hM⟩
set_option maxRecDepth 100000 in
set_option maxHeartbeats 4000000 in
theorem heldMessageW (a : Option Addr) (n c B : Nat) (kz : Int) (zs : List TMessage) (w : World) (h : HasMessage w B a n (mkMessage kz zs n)) (hn : n ≤ 2097152) (ht : sumTo totMessage zs n ≤ 2097152) (h0 : 0 ≤ kz) (h1 : kz ≤ 1073741824) :
    Calls Try.prog 71 #[.slice a n c, .int .i64 kz] w fun e w' => e = .returned (.int .i64 (kz + ((sumTo totMessage zs n : Nat) : Int))) ∧ w = w' := by
  have HT := Lib.hid ht
  clear ht
  go_enter Try.func71, Try.ntmps71
  go_wp2
  go_loop [1, 4, 5] (fun q rr i => rr = .int .i64 0 ∧ ∃ k : Nat, k ≤ n ∧ i = .int .i64 k ∧ q = .int .i64 (kz + ((sumTo totMessage zs k : Nat) : Int))) (fun _ _ i => n - (intOf i).toNat)
  case atStart => exact ⟨rfl, 0, Nat.zero_le _, rfl, by simp [sumTo]⟩
  case round =>
    obtain ⟨rfl, k, hk, rfl, rfl⟩ := hrel
    have hs1 := sumTo_le totMessage zs hk
    obtain ⟨V, hV⟩ : ∃ V, Hid (V = sumTo totMessage zs k) := ⟨_, Lib.hid rfl⟩
    have hVb : V ≤ 2097152 := by rw [hV.out]; exact Nat.le_trans hs1 HT.out
    clear hs1
    rw [← hV.out]
    by_cases hlt : k < n
    · have hT := sumTo_at totMessage zs hlt
      rw [← hV.out] at hT
      obtain ⟨b, off, x, rfl, hb, hx, a3, n3, c3, d0, hr, p1, p2, p3⟩ := HasMessage.at _ _ _ _ _ _ h hlt
      try rw [Nat.mul_one] at d0
      obtain ⟨X, hX⟩ : ∃ X, Hid (X = zs.getD k default) := ⟨_, Lib.hid rfl⟩
      rw [← hX.out] at hT
      obtain rfl := hx.out.trans (mkMessage_at kz zs hlt)
      rw [← hX.out, ← hV.out] at hr
      simp only [mkeMessage] at hr
      have hVs := Lib.hid (show sumTo totMessage zs (k + 1) = V + totMessage X by rw [sumTo, ← hV.out, hX.out])
      have hTT := Lib.hid (show totMessage X = 0 + 1 * X.data.length from rfl)
      rw [hTT.out] at hT
      have hTb := Nat.le_trans hT HT.out
      clear hT
      have hOl : (mklByte (kz + (V : Int)) X.data.length).length = n3 := hr.1
      rw [mklByte_len] at hOl
      subst hOl
      go_wp2_with fail
      refine (heldByteM a3 _ c3 B (kz + (V : Int)) _ hr (by omega) (by omega) (by omega)).mono ?_
      rintro e w2 ⟨rfl, rfl⟩
      go_wp2_with fail
      go_round
      case rel => exact ⟨rfl, k + 1, by omega, by go_num, congrArg (Value.int .i64) (by rw [hVs.out, hTT.out]; omega)⟩
      case measure => simp [intOf]; omega
    · obtain rfl : k = n := by omega
      go_wp2
      go_ret
      exact ⟨retI (by rw [hV.out]), rfl⟩
end Go.Proofs.Ytdlafigjkefllaa
namespace Go.Proofs.Ytdlafigjkefllaa
open Go.ChangeShapes Go.WideShapes Go.ChangeAt Go.RowKit
set_option linter.unusedVariables false
def OutElMessage (y : TMessage) (w : World) (e : Ending) (w' : World) : Prop :=
  ∃ A N C, e = .returned (.agg #[.slice A N C]) ∧ ((A = none → C = 0) ∧ (N ≤ C ∧ C ≤ 9223372036854775807)) ∧ OwnByte w' w.heap.size w'.heap.size A N y.data ∧ Mk0 w w'
def OutLMessage (R : List TMessage) (w : World) (e : Ending) (w' : World) : Prop :=
  ∃ A N C, e = .returned (.slice A N C) ∧ ((A = none → C = 0) ∧ (N ≤ C ∧ C ≤ 9223372036854775807)) ∧ OwnN WMessage w' w.heap.size w'.heap.size A N R ∧ Mk0 w w'
theorem oneMessage : ∀ (g : HMessage) (j : Nat), (HMessage.cell g j).oneCell' = true := fun g j => by unfold HMessage.cell; split <;> rfl
theorem own0Message (w : World) (b : Nat) : WMessage.kid w b b default default := by
  refine ⟨OwnR.none_ _ _ _ _, Nat.le_refl _, by decide, fun _ => rfl⟩
end Go.Proofs.Ytdlafigjkefllaa
namespace Go.Proofs.Ytdlafigjkefllaa
open Go.ChangeShapes Go.WideShapes Go.ChangeAt Go.RowKit
set_option linter.unusedVariables false
theorem cellsAt_set {w : World} {b : Nat} {cur : Array Value} {e : TypeId} (h : w.heap[b]? = some (.cells cur e (0, 0))) (p : Addr) (u : Value) : ∃ cur', (w.setCell p u).heap[b]? = some (.cells cur' e (0, 0)) ∧ cur'.size = cur.size := by
  by_cases hp : b = p.block
  · obtain ⟨hlt, hk⟩ := Array.getElem?_eq_some_iff.1 h
    subst hp
    refine ⟨if p.spot.isSome then cur else cur.setIfInBounds p.off u, ?_, by split <;> simp⟩
    show (w.heap.modify p.block _)[p.block]? = _
    rw [Array.getElem?_eq_getElem (by rw [Array.size_modify]; exact hlt), Array.getElem_modify_self, hk]
  · refine ⟨cur, ?_, rfl⟩
    exact (Below.heap_setCell w p u b hp).trans h
def RowObj (w : World) (b : Nat) (e : TypeId) (N : Nat) : Prop := ∃ cur, w.heap[b]? = some (.cells cur e (0, 0)) ∧ cur.size = N
theorem RowObj.set {w : World} {b N : Nat} {e : TypeId} (h : RowObj w b e N) (p : Addr) (u : Value) : RowObj (w.setCell p u) b e N := by
  obtain ⟨cur, h1, h2⟩ := h
  obtain ⟨cur', h3, h4⟩ := cellsAt_set h1 p u
  exact ⟨cur', h3, h4.trans h2⟩
theorem RowObj.mk {w w' : World} {b N : Nat} {e : TypeId} (h : RowObj w b e N) (m : Mk0 w w') : RowObj w' b e N := by
  obtain ⟨cur, h1, h2⟩ := h
  exact ⟨cur, (m.block b (Array.getElem?_eq_some_iff.1 h1).1 (.inr (Nat.zero_le _))).trans h1, h2⟩
theorem RowObj.own {η : Type} [Inhabited η] {w : World} {lo b nc n : Nat} {e : TypeId} {cell : η → Nat → Value} {gs : List η} (h : RowObj w b e (n * nc)) (h0 : 0 < nc) (hl : gs.length = n) (hb : lo ≤ b) (hn : n ≤ 1048576) (hc : ∀ j, j < n * nc → w.cell? ⟨b, j, none⟩ = some (flat nc cell gs j)) : w.ownsRow lo e nc (.slice (some ⟨b, 0, none⟩) n n) n (rowC nc cell gs) := by
  obtain ⟨cur, h1, h2⟩ := h
  refine ⟨by rw [rowC_len, hl], .inr ⟨b, n, cur, rfl, hb, h1, Nat.le_refl _, by unfold maxLen; omega, h2, ?_⟩⟩
  refine List.ext_getElem? fun j => ?_
  by_cases hj : j < n * nc
  · have hq := hc j hj
    simp only [World.cell?, h1] at hq
    rw [List.getElem?_take, if_pos hj, Array.getElem?_toList, rowC_get h0 gs j (by rw [hl]; exact hj)]
    simpa using hq
  · rw [List.getElem?_eq_none (by rw [List.length_take]; omega), List.getElem?_eq_none (by rw [rowC_len, hl]; omega)]
def OutSMessage (R : List TMessage) (w : World) (e : Ending) (w' : World) : Prop :=
  ∃ A N C gs, e = .returned (.slice A N C) ∧ w'.ownsRow w.heap.size 103 1 (.slice A N C) N (rowC 1 HMessage.cell gs) ∧ gs.length = N ∧ R.length = N ∧ Kids WMessage w' w.heap.size w'.heap.size (fun g => (Value.slice A N C).ownBlock = some g) N gs R ∧ Mk0 w w'
set_option maxRecDepth 100000 in
set_option maxHeartbeats 4000000 in
theorem cloneAllSMessage (g : TMessage → TMessage) (Fc : FuncId) (a : Option Addr) (n c B : Nat) (zs : List TMessage) (w : World) (h : HasMessage w B a n zs) (hB : B ≤ w.heap.size) (hs : szMessage zs n ≤ 1048576)
    (hen : ∀ (x : TMessage) a3 n3 c3 w1, (callFunc Fc #[.agg #[.slice a3 n3 c3]]).run Try.prog w1 = .ok (.enter Fc #[.agg #[.slice a3 n3 c3]]) w1)
    (hcl : ∀ (x : TMessage) a3 n3 c3 B1 w1, HasByte w1 B1 a3 n3 x.data → B1 ≤ w1.heap.size → n3 ≤ 1048576 → n3 ≤ c3 → c3 ≤ 9223372036854775807 → (a3 = none → c3 = 0) → Calls Try.prog Fc #[.agg #[.slice a3 n3 c3]] w1 (OutElMessage (g x) w1)) :
    Calls Try.prog 105 #[.slice a n c, .func (.func Fc) #[] #[]] w (OutSMessage (zs.map g) w) := by
  have hn : n ≤ 1048576 := Nat.le_trans (szMessage_n zs n) hs
  obtain ⟨i0, hi, hz0, hz1, hz2⟩ := info_parts infoRMessage
  have hu := Try.underlying57
  have HCL := Lib.hid hcl
  have HEN := Lib.hid hen
  clear hcl hen
  obtain ⟨RR, hRR⟩ : ∃ R, Hid (R = (zs.map g)) := ⟨_, Lib.hid rfl⟩
  have hRl : RR.length = n := by rw [hRR.out]; rw [List.length_map]; exact h.1
  rw [← hRR.out]
  go_enter Try.func105, Try.ntmps105
  go_wp2_with (with_reducible refine wpList_make_full w rfl (.tmp 9) (.tmp 9) 57 rfl w.heap.size 103 i0 (.agg #[.slice none 0 0]) 1 hu hi hz0 hz1 .i64 .i64 n n n rfl rfl rfl rfl (by rw [hz2]; omega) (by unfold maxLen; omega) (Nat.le_refl _) ?_; intro w1 hown hgr)
  have hF := (ownsRow_fillR hown (flat 1 HMessage.cell (List.replicate n default))).toP (g := flat 1 HMessage.cell (List.replicate n default))
  have hB1 : Mk0 w w1 := Mk.of_below ((Below.refl _ _).grown hgr (Nat.le_refl _) (fun k hk => by cases hk))
  have hsz1 : w.heap.size < w1.heap.size := (hown.lt _ rfl).2
  have hRO : RowObj w1 w.heap.size 103 (n * 1) := by
    rcases hown.2 with ⟨e9, _⟩ | ⟨g9, cap9, cur9, e9, _, hg9, _, _, hs9, _⟩
    · cases e9
    · cases e9
      exact ⟨cur9, hg9, hs9⟩
  clear hown hgr hu
  go_loopw [13] (fun i wr => ∃ (k : Nat) (gs : List HMessage), k ≤ n ∧ i = .int .i64 k ∧ RowObj wr w.heap.size 103 (n * 1) ∧ FillP wr w.heap.size (n * 1) (fun j => j < k * 1) (flat 1 HMessage.cell gs) ∧ gs.length = n ∧ Hid (Kids WMessage wr (w.heap.size + 1) wr.heap.size (fun q => q = w.heap.size) n gs ((List.range n).map fun q => if q < k then RR.getD q default else default)) ∧ Mk0 w wr ∧ w.heap.size < wr.heap.size) (fun i _ => n - (intOf i).toNat)
  case atStart =>
    refine ⟨0, List.replicate n default, Nat.zero_le _, rfl, hRO, hF.mono (fun j hj hq => by omega), by simp, ⟨fun _ => w.heap.size + 1, fun _ => w.heap.size + 1, fun i j _ _ _ => .inl (Nat.le_refl _), fun i hi => ⟨Nat.le_refl _, Nat.le_refl _, hsz1, fun b hb => .inl (by have hb2 : b = w.heap.size := hb; show b < w.heap.size + 1; omega), ?_⟩⟩, hB1, hsz1⟩
    rw [show (List.replicate n (default : HMessage)).getD i default = default by simp [List.getD_eq_getElem?_getD, hi], getD_map_range hi, if_neg (by omega)]
    exact own0Message _ _
  case round =>
    clear hF hB1 hsz1 hRO
    obtain ⟨k, gs, hk, rfl, hRO, hF, hgl, hK, hM, hszr⟩ := hrel
    by_cases hlt : k < n
    · obtain ⟨b, off, x, rfl, hb, hx, a3, n3, c3, d0, hr, p1, p2, p3⟩ := HasMessage.at _ _ _ _ _ _ (h.mk hM hB (.inr (Nat.le_refl _))) hlt
      try rw [Nat.mul_one] at d0
      have hbr := World.block_lt_of_cell? _ _ d0
      simp only at hbr
      have HG := Lib.hid (show RR.getD k default = g x by rw [hRR.out, List.getD_eq_getElem?_getD, List.getElem?_map, List.getElem?_eq_getElem (show k < zs.length by rw [h.1]; exact hlt), hx.out, List.getD_eq_getElem?_getD, List.getElem?_eq_getElem (show k < zs.length by rw [h.1]; exact hlt)]; rfl)
      have hbd : n3 ≤ 1048576 := by have h1 := szMessage_at zs hlt; rw [← hx.out] at h1; unfold seMessage at h1; have h2 : x.data.length = n3 := hr.1; omega
      have hml : k * 1 + 1 ≤ n * 1 := by have : (k + 1) * 1 ≤ n * 1 := Nat.mul_le_mul_right _ hlt; rw [Nat.succ_mul] at this; exact this
      have MX := Mk.alloc wr (Obj.cells #[Value.slice a3 n3 c3] 103)
      have hcl1 := HCL.out x a3 n3 c3 B (wr.alloc (Obj.cells #[Value.slice a3 n3 c3] 103)) ((hr.mk MX (Nat.le_trans hB hM.size) (.inr (Nat.le_refl _)))) (Nat.le_trans hB (hM.trans MX).size) hbd p1 p2 p3
      have hen := HEN.out x a3 n3 c3
      go_wp2_with fail
      refine hcl1.mono ?_
      rintro e w2 ⟨A3, N3, C3, rfl, hc3, hO3, m2⟩
      clear hcl1 hen
      rw [World.size_alloc] at hO3
      have mY := MX.trans m2
      have hF2 := hF.keep mY
      have hsz2 := m2.size
      rw [World.size_alloc] at hsz2
      obtain ⟨G, hG⟩ : ∃ G : HMessage, Hid (G = ⟨A3, N3, C3⟩) := ⟨_, Lib.hid rfl⟩
      have hcg : FillP w2 w.heap.size (n * 1) (fun j => j < k * 1) (flat 1 HMessage.cell (gs.set k G)) := fun j hj => by
        obtain ⟨v, v1, v2, v3⟩ := hF2 j hj
        refine ⟨v, v1, v2, fun hq => ?_⟩
        rw [v3 hq]
        unfold flat
        rw [getD_set_off (show j / 1 ≠ k from fun e => by have h1 := Nat.div_add_mod j 1; rw [e] at h1; have h2 := Nat.mod_lt j (show 0 < 1 by decide); simp only at hq; omega)]
      clear hF2 hF
      obtain ⟨v0, p0', f0⟩ := hcg.any (j := k) (by omega)
      have hKx : WMessage.kid w2 (wr.heap.size + 1) w2.heap.size G (g x) := by rw [hG.out]; exact ⟨hO3, hc3.2.1, hc3.2.2, hc3.1⟩
      have hK2 := ((hK.out.mk mY (Nat.le_refl _) (.inr (.inr (Nat.le_refl _)))).upd hlt hgl (by simp) (by omega) hsz2 hKx (by omega) (fun b hb => .inl (by have hb2 : b = w.heap.size := hb; omega)))
      have hLs : ((List.range n).map fun q => if q < k + 1 then RR.getD q default else default) = (((List.range n).map fun q => if q < k then RR.getD q default else default)).set k (g x) := by
        refine List.ext_getElem (by simp) fun q h1 h2 => ?_
        simp only [List.getElem_set, List.getElem_map, List.getElem_range]
        by_cases e : k = q
        · subst e; rw [if_pos rfl, if_pos (by omega), HG.out]
        · rw [if_neg e]
          by_cases e2 : q < k
          · rw [if_pos e2, if_pos (by omega)]
          · rw [if_neg e2, if_neg (by omega)]
      clear hKx hK hO3
      go_wp2_with fail
      go_roundw
      case rel =>
        refine ⟨k + 1, gs.set k G, by omega, by go_num, ((hRO.mk mY).set _ _), (hcg.set (m := k) (by omega) (by have hfl := flat_at (nc := 1) (cell := HMessage.cell) (gs.set k G) k 0 (by omega); rw [Nat.mul_one, Nat.add_zero] at hfl; rw [hfl, getD_set_at (by omega), hG.out]; rfl)).mono (fun j hj hq => ?_), by rw [List.length_set]; exact hgl, ?_, (hM.trans mY).put _ _ (Nat.le_refl _), by simp only [World.size_set]; omega⟩
        · first | (simp only at hq ⊢; rw [Nat.succ_mul] at hq; omega) | (rw [Nat.succ_mul] at hq; omega) | omega
        · rw [hLs]
          exact Lib.hid ((hK2.set _ _ (.inl rfl)).wide (Nat.le_refl _) (by simp only [World.size_set]; exact Nat.le_refl _))
      case measure => simp [intOf]; omega
    · obtain rfl : k = n := by omega
      go_wp2_with fail
      go_ret
      have hA := (hF.mono (q := fun _ => True) (fun j hj _ => by exact hj)).all
      have hL : ((List.range k).map fun q => if q < k then RR.getD q default else default) = RR := by
        refine List.ext_getElem (by simp [hRl]) fun q h1 h2 => ?_
        simp only [List.getElem_map, List.getElem_range]
        rw [if_pos (by simpa using h1), List.getD_eq_getElem?_getD, List.getElem?_eq_getElem h2]
        rfl
      rw [hL] at hK
      have hOwn := hRO.own (cell := HMessage.cell) (lo := w.heap.size) (by decide) hgl (Nat.le_refl _) hn (fun j hj => by have := (hA j hj); obtain ⟨v, h1, _, h3⟩ := this; rw [Nat.zero_add] at h1; rw [← h3 hj]; exact h1)
      refine ⟨_, k, k, gs, rfl, hOwn, hgl, hRl, (hK.out.avoid (fun g hg => .inl (by simp [Value.ownBlock] at hg; exact hg.symm))).wide (Nat.le_succ _) (Nat.le_refl _), hM⟩

end Go.Proofs.Ytdlafigjkefllaa
namespace Go.Proofs.Ytdlafigjkefllaa
open Go.ChangeShapes Go.WideShapes Go.ChangeAt Go.RowKit
set_option linter.unusedVariables false
set_option maxRecDepth 100000 in
set_option maxHeartbeats 4000000 in
theorem cloneAllMessage (g : TMessage → TMessage) (Fc : FuncId) (a : Option Addr) (n c B : Nat) (zs : List TMessage) (w : World) (h : HasMessage w B a n zs) (hB : B ≤ w.heap.size) (hs : szMessage zs n ≤ 1048576)
    (hen : ∀ (x : TMessage) a3 n3 c3 w1, (callFunc Fc #[.agg #[.slice a3 n3 c3]]).run Try.prog w1 = .ok (.enter Fc #[.agg #[.slice a3 n3 c3]]) w1)
    (hcl : ∀ (x : TMessage) a3 n3 c3 B1 w1, HasByte w1 B1 a3 n3 x.data → B1 ≤ w1.heap.size → n3 ≤ 1048576 → n3 ≤ c3 → c3 ≤ 9223372036854775807 → (a3 = none → c3 = 0) → Calls Try.prog Fc #[.agg #[.slice a3 n3 c3]] w1 (OutElMessage (g x) w1)) :
    Calls Try.prog 105 #[.slice a n c, .func (.func Fc) #[] #[]] w (OutLMessage ((zs.map g)) w) := by
  have hn : n ≤ 1048576 := Nat.le_trans (szMessage_n zs n) hs
  obtain ⟨i0, hi, hz0, hz1, hz2⟩ := info_parts infoRMessage
  have hu := Try.underlying57
  have HCL := Lib.hid hcl
  have HEN := Lib.hid hen
  clear hcl hen
  obtain ⟨RR, hRR⟩ : ∃ R, Hid (R = (zs.map g)) := ⟨_, Lib.hid rfl⟩
  have hRl : RR.length = n := by rw [hRR.out]; rw [List.length_map]; exact h.1
  rw [← hRR.out]
  go_enter Try.func105, Try.ntmps105
  go_wp2_with (with_reducible refine wpList_make_full w rfl (.tmp 9) (.tmp 9) 57 rfl w.heap.size 103 i0 (.agg #[.slice none 0 0]) 1 hu hi hz0 hz1 .i64 .i64 n n n rfl rfl rfl rfl (by rw [hz2]; omega) (by unfold maxLen; omega) (Nat.le_refl _) ?_; intro w1 hown hgr)
  have hF := (ownsRow_fillR hown (flat 1 HMessage.cell (List.replicate n default))).toP (g := flat 1 HMessage.cell (List.replicate n default))
  have hB1 : Mk0 w w1 := Mk.of_below ((Below.refl _ _).grown hgr (Nat.le_refl _) (fun k hk => by cases hk))
  have hsz1 : w.heap.size < w1.heap.size := (hown.lt _ rfl).2
  clear hown hgr hu
  go_loopw [13] (fun i wr => ∃ (k : Nat) (gs : List HMessage), k ≤ n ∧ i = .int .i64 k ∧ FillP wr w.heap.size (n * 1) (fun j => j < k * 1) (flat 1 HMessage.cell gs) ∧ gs.length = n ∧ Hid (Kids WMessage wr (w.heap.size + 1) wr.heap.size (fun q => q = w.heap.size) n gs ((List.range n).map fun q => if q < k then RR.getD q default else default)) ∧ Mk0 w wr ∧ w.heap.size < wr.heap.size) (fun i _ => n - (intOf i).toNat)
  case atStart =>
    refine ⟨0, List.replicate n default, Nat.zero_le _, rfl, hF.mono (fun j hj hq => by omega), by simp, ⟨fun _ => w.heap.size + 1, fun _ => w.heap.size + 1, fun i j _ _ _ => .inl (Nat.le_refl _), fun i hi => ⟨Nat.le_refl _, Nat.le_refl _, hsz1, fun b hb => .inl (by have hb2 : b = w.heap.size := hb; show b < w.heap.size + 1; omega), ?_⟩⟩, hB1, hsz1⟩
    rw [show (List.replicate n (default : HMessage)).getD i default = default by simp [List.getD_eq_getElem?_getD, hi], getD_map_range hi, if_neg (by omega)]
    exact own0Message _ _
  case round =>
    clear hF hB1 hsz1
    obtain ⟨k, gs, hk, rfl, hF, hgl, hK, hM, hszr⟩ := hrel
    by_cases hlt : k < n
    · obtain ⟨b, off, x, rfl, hb, hx, a3, n3, c3, d0, hr, p1, p2, p3⟩ := HasMessage.at _ _ _ _ _ _ (h.mk hM hB (.inr (Nat.le_refl _))) hlt
      try rw [Nat.mul_one] at d0
      have hbr := World.block_lt_of_cell? _ _ d0
      simp only at hbr
      have HG := Lib.hid (show RR.getD k default = g x by rw [hRR.out, List.getD_eq_getElem?_getD, List.getElem?_map, List.getElem?_eq_getElem (show k < zs.length by rw [h.1]; exact hlt), hx.out, List.getD_eq_getElem?_getD, List.getElem?_eq_getElem (show k < zs.length by rw [h.1]; exact hlt)]; rfl)
      have hbd : n3 ≤ 1048576 := by have h1 := szMessage_at zs hlt; rw [← hx.out] at h1; unfold seMessage at h1; have h2 : x.data.length = n3 := hr.1; omega
      have hml : k * 1 + 1 ≤ n * 1 := by have : (k + 1) * 1 ≤ n * 1 := Nat.mul_le_mul_right _ hlt; rw [Nat.succ_mul] at this; exact this
      have MX := Mk.alloc wr (Obj.cells #[Value.slice a3 n3 c3] 103)
      have hcl1 := HCL.out x a3 n3 c3 B (wr.alloc (Obj.cells #[Value.slice a3 n3 c3] 103)) ((hr.mk MX (Nat.le_trans hB hM.size) (.inr (Nat.le_refl _)))) (Nat.le_trans hB (hM.trans MX).size) hbd p1 p2 p3
      have hen := HEN.out x a3 n3 c3
      go_wp2_with fail
      refine hcl1.mono ?_
      rintro e w2 ⟨A3, N3, C3, rfl, hc3, hO3, m2⟩
      clear hcl1 hen
      rw [World.size_alloc] at hO3
      have mY := MX.trans m2
      have hF2 := hF.keep mY
      have hsz2 := m2.size
      rw [World.size_alloc] at hsz2
      obtain ⟨G, hG⟩ : ∃ G : HMessage, Hid (G = ⟨A3, N3, C3⟩) := ⟨_, Lib.hid rfl⟩
      have hcg : FillP w2 w.heap.size (n * 1) (fun j => j < k * 1) (flat 1 HMessage.cell (gs.set k G)) := fun j hj => by
        obtain ⟨v, v1, v2, v3⟩ := hF2 j hj
        refine ⟨v, v1, v2, fun hq => ?_⟩
        rw [v3 hq]
        unfold flat
        rw [getD_set_off (show j / 1 ≠ k from fun e => by have h1 := Nat.div_add_mod j 1; rw [e] at h1; have h2 := Nat.mod_lt j (show 0 < 1 by decide); simp only at hq; omega)]
      clear hF2 hF
      obtain ⟨v0, p0', f0⟩ := hcg.any (j := k) (by omega)
      have hKx : WMessage.kid w2 (wr.heap.size + 1) w2.heap.size G (g x) := by rw [hG.out]; exact ⟨hO3, hc3.2.1, hc3.2.2, hc3.1⟩
      have hK2 := ((hK.out.mk mY (Nat.le_refl _) (.inr (.inr (Nat.le_refl _)))).upd hlt hgl (by simp) (by omega) hsz2 hKx (by omega) (fun b hb => .inl (by have hb2 : b = w.heap.size := hb; omega)))
      have hLs : ((List.range n).map fun q => if q < k + 1 then RR.getD q default else default) = (((List.range n).map fun q => if q < k then RR.getD q default else default)).set k (g x) := by
        refine List.ext_getElem (by simp) fun q h1 h2 => ?_
        simp only [List.getElem_set, List.getElem_map, List.getElem_range]
        by_cases e : k = q
        · subst e; rw [if_pos rfl, if_pos (by omega), HG.out]
        · rw [if_neg e]
          by_cases e2 : q < k
          · rw [if_pos e2, if_pos (by omega)]
          · rw [if_neg e2, if_neg (by omega)]
      clear hKx hK hO3
      go_wp2_with fail
      go_roundw
      case rel =>
        refine ⟨k + 1, gs.set k G, by omega, by go_num, (hcg.set (m := k) (by omega) (by have hfl := flat_at (nc := 1) (cell := HMessage.cell) (gs.set k G) k 0 (by omega); rw [Nat.mul_one, Nat.add_zero] at hfl; rw [hfl, getD_set_at (by omega), hG.out]; rfl)).mono (fun j hj hq => ?_), by rw [List.length_set]; exact hgl, ?_, (hM.trans mY).put _ _ (Nat.le_refl _), by simp only [World.size_set]; omega⟩
        · first | (simp only at hq ⊢; rw [Nat.succ_mul] at hq; omega) | (rw [Nat.succ_mul] at hq; omega) | omega
        · rw [hLs]
          exact Lib.hid ((hK2.set _ _ (.inl rfl)).wide (Nat.le_refl _) (by simp only [World.size_set]; exact Nat.le_refl _))
      case measure => simp [intOf]; omega
    · obtain rfl : k = n := by omega
      go_wp2_with fail
      go_ret
      have hA := (hF.mono (q := fun _ => True) (fun j hj _ => by exact hj)).all
      have hL : ((List.range k).map fun q => if q < k then RR.getD q default else default) = RR := by
        refine List.ext_getElem (by simp [hRl]) fun q h1 h2 => ?_
        simp only [List.getElem_map, List.getElem_range]
        rw [if_pos (by simpa using h1), List.getD_eq_getElem?_getD, List.getElem?_eq_getElem h2]
        rfl
      rw [hL] at hK
      refine ⟨_, k, k, rfl, ⟨(fun h => by cases h), Nat.le_refl _, by omega⟩, ?_, hM⟩
      exact (OwnN.of_own (hA.ownR (nc := 1) (cell := HMessage.cell) hgl (fun i hi j hj => flat_at _ _ _ hj) (Nat.le_refl _) (Nat.lt_succ_self _) (by decide)) ⟨Nat.le_refl _, hszr⟩ (hK.out.wide (Nat.le_succ _) (Nat.le_refl _)) hRl)

end Go.Proofs.Ytdlafigjkefllaa
namespace Go.Proofs.Ytdlafigjkefllaa
open Go.ChangeShapes Go.WideShapes Go.ChangeAt Go.RowKit
set_option linter.unusedVariables false
theorem Mk.setCells {lo hi : Nat} {w : World} (b : Nat) (hb : w.heap.size ≤ b) : ∀ (vs : List Value) (o : Nat) (w1 : World), Mk0 w w1 → Mk0 w (w1.setCells b o vs)
  | [], _, _, m => m
  | v :: vs, o, w1, m => Mk.setCells (lo := lo) (hi := hi) b hb vs (o + 1) _ (m.put ⟨b, o, none⟩ v hb)
theorem size_setCells' (b : Nat) : ∀ (vs : List Value) (o : Nat) (w : World), (w.setCells b o vs).heap.size = w.heap.size
  | [], _, _ => rfl
  | v :: vs, o, w => (size_setCells' b vs (o + 1) _).trans (World.size_set _ _ _)
theorem copyBytes (LO n c B : Nat) (a : Option Addr) (zs : List TByte) (w1 : World) (hown : w1.ownsRow LO 5 1 (.slice (some ⟨LO, 0, none⟩) n n) n (madeCells (Value.int .u8 0).cells (n * 1)).toList) (h : HasByte w1 B a n zs) :
    ∃ w2, (∀ (ty : TypeId), (Builtin.copy_ #[52, 52] ty #[.slice (some ⟨LO, 0, none⟩) n n, .slice a n c]).run Try.prog w1 = .ok (goInt (n : Int)) w2) ∧ OwnByte w2 LO w2.heap.size (some ⟨LO, 0, none⟩) n zs ∧ (∀ w, w.heap.size ≤ LO → Mk0 w w1 → Mk0 w w2) ∧ (∀ p : Addr, p.block ≠ LO → w2.cell? p = w1.cell? p) ∧ (∀ p, w2.frozen? p = w1.frozen? p) ∧ LO < w2.heap.size := by
  obtain ⟨i0, hi, hz0, hz1, hz2⟩ := info_parts infoU8
  have hu := Try.underlying52
  have hzl : zs.length = n := h.1
  have hF := ownsRow_fillR hown (fun _ => undef)
  have hlt1 : LO < w1.heap.size := (hown.lt _ rfl).2
  have hi1 : (Try.prog.info? 5).map (·.size) = some 1 := by rw [hi, Option.map_some, hz1]
  by_cases hn0 : n = 0
  · subst hn0
    exact ⟨w1, fun ty => run_copy_none w1 52 52 ty 5 _ a 0 0 0 c hu hi1 rfl, ⟨hzl, fun h0 => absurd h0 (by omega)⟩, fun w _ m => m, fun _ _ => rfl, fun _ => rfl, hlt1⟩
  · obtain ⟨b, off, rfl, hb, hcell⟩ := h.2 (by omega)
    obtain ⟨cs, hcs⟩ : ∃ cs, cs = zs.map (Value.int .u8) := ⟨_, rfl⟩
    have hcl : cs.length = n := by rw [hcs, List.length_map, hzl]
    have hsm : ∀ j, j < cs.length → (w1.cell? ⟨LO, 0 + j, none⟩).isSome = true := fun j hj => by
      obtain ⟨v, h1, _⟩ := hF j (by omega)
      rw [h1]
      rfl
    have hsrc : ∀ j v, cs[j]? = some v → w1.cell? ((⟨b, off, none⟩ : Addr).add j) = some v := by
      intro j v hv
      have hj : j < n := by
        rcases Nat.lt_or_ge j cs.length with h1 | h1
        · omega
        · rw [List.getElem?_eq_none h1] at hv; cases hv
      rw [add_plain, hcell j (by omega), ← hv, hcs, List.getElem?_map, List.getElem?_eq_getElem (by rw [hzl]; exact hj), flat_int, List.getD_eq_getElem?_getD, List.getElem?_eq_getElem (by rw [hzl]; exact hj)]
      rfl
    have hrun : ∀ (ty : TypeId), (Builtin.copy_ #[52, 52] ty #[.slice (some ⟨LO, 0, none⟩) n n, .slice (some ⟨b, off, none⟩) n c]).run Try.prog w1 = .ok (goInt (n : Int)) (w1.setCells LO 0 cs) := fun ty => by
      have := run_copy_cells w1 52 52 ty 5 LO 0 n n ⟨b, off, none⟩ n c cs hu hi1 (by rw [hcl]; simp) hsrc hsm (fun j hj => by obtain ⟨v, _, h2, _⟩ := hF j (by omega); exact h2) (fun v hv => by rw [hcs] at hv; obtain ⟨x, _, rfl⟩ := List.mem_map.1 hv; rfl)
      rw [hcl] at this
      exact this
    have hin := World.cell?_setCells_in LO cs 0 w1 hsm
    have hfz := World.frozen?_setCells LO cs 0 w1
    have hsz := size_setCells' LO cs 0 w1
    refine ⟨w1.setCells LO 0 cs, hrun, ⟨hzl, fun _ => ⟨LO, 0, rfl, Nat.le_refl _, by rw [hsz]; exact hlt1, fun j hj => ⟨?_, ?_⟩⟩⟩, fun w hw m => Mk.setCells (lo := 0) (hi := 0) LO hw cs 0 w1 m, fun p hp => World.cell?_setCells_out LO cs 0 w1 p (fun e => absurd e hp), hfz, by rw [hsz]; exact hlt1⟩
    · rw [hin j (by omega), flat_int, List.getD_eq_getElem?_getD, List.getElem?_eq_getElem (by rw [hzl]; omega)]
      simp only [hcs, List.getElem_map]
      rfl
    · obtain ⟨v, _, h2, _⟩ := hF j (by omega)
      exact (hfz _).trans h2
set_option maxRecDepth 100000 in
set_option maxHeartbeats 4000000 in
theorem implCloneMsg (a : Option Addr) (n c B : Nat) (zs : List TByte) (w : World) (h : HasByte w B a n zs) (hB : B ≤ w.heap.size) (hn : n ≤ 1048576) :
    Calls Try.prog 93 #[.agg #[.slice a n c]] w (OutElMessage ⟨zs⟩ w) := by
  have M0 : Mk0 w ((w.alloc (Obj.cells #[Value.slice a n c] 103)).alloc (Obj.cells #[Value.slice none 0 0] 103)) := ((Mk.alloc w (Obj.cells #[Value.slice a n c] 103)).new (Obj.cells #[Value.slice none 0 0] 103))
  have k0 : ((w.alloc (Obj.cells #[Value.slice a n c] 103)).alloc (Obj.cells #[Value.slice none 0 0] 103)).cell? ⟨w.heap.size, 0, none⟩ = some (.slice a n c) := by simp [go_sem]
  have r0 : ((w.alloc (Obj.cells #[Value.slice a n c] 103)).alloc (Obj.cells #[Value.slice none 0 0] 103)).cell? ⟨w.heap.size + 1, 0, none⟩ = some (.slice none 0 0) := by simp [go_sem]
  have hs0 : ((w.alloc (Obj.cells #[Value.slice a n c] 103)).alloc (Obj.cells #[Value.slice none 0 0] 103)).heap.size = w.heap.size + 1 + 1 := by simp only [World.size_alloc]
  have fR : ∀ q, ((w.alloc (Obj.cells #[Value.slice a n c] 103)).alloc (Obj.cells #[Value.slice none 0 0] 103)).frozen? ⟨w.heap.size + 1, q, none⟩ = false := fun q => by simp [go_sem]
  obtain ⟨i0, hi, hz0, hz1, hz2⟩ := info_parts infoU8
  have hu := Try.underlying52
  go_enter Try.func93, Try.ntmps93
  go_wp2_with (first | (at_builtin; refine Lib.wpList_copy_run _ rfl (.tmp 8) (.tmp 10) 52 52 rfl _ _ rfl rfl (hcp _) ?_) | (with_reducible refine wpList_make_full ((w.alloc (Obj.cells #[Value.slice a n c] 103)).alloc (Obj.cells #[Value.slice none 0 0] 103)) rfl (.tmp 6) (.tmp 6) 52 rfl ((w.alloc (Obj.cells #[Value.slice a n c] 103)).alloc (Obj.cells #[Value.slice none 0 0] 103)).heap.size 5 i0 (.int .u8 0) 1 hu hi hz0 hz1 .i64 .i64 n n n rfl rfl rfl rfl (by rw [hz2]; omega) (by unfold maxLen; omega) (Nat.le_refl _) ?_; intro w1 hown hgr; have hB1 : Mk0 ((w.alloc (Obj.cells #[Value.slice a n c] 103)).alloc (Obj.cells #[Value.slice none 0 0] 103)) w1 := Mk.of_below ((Below.refl _ _).grown hgr (Nat.le_refl _) (fun k hk => by cases hk)); rw [hs0] at hown; have k1 := hB1.cellAt k0; have r1 := hB1.cellAt r0; obtain ⟨w2, hcp, hO, hM2, hce, hfz, hlt2⟩ := copyBytes (w.heap.size + 1 + 1) n c B a zs w1 hown (h.mk (M0.trans hB1) hB (.inr (Nat.le_refl _))); have r2 := (hce ⟨w.heap.size + 1, 0, none⟩ (by simp only; omega)).trans r1; have fR2 : ∀ q, w2.frozen? ⟨w.heap.size + 1, q, none⟩ = false := fun q => (hfz _).trans ((hB1.frozen (b := w.heap.size + 1) (o := q) (by omega) (.inr (Nat.zero_le _))).trans (fR q)); have M2 := hM2 w (by omega) (M0.trans hB1); clear hce hfz hM2))
  replace r2 := World.cell?_setCell_same _ _ (.slice (some ⟨w.heap.size + 1 + 1, 0, none⟩) n n) r2
  refine bodyPost_ret (v := .agg #[.slice (some ⟨w.heap.size + 1 + 1, 0, none⟩) n n]) (by simp [results, Try.results93, go_sem, r2]) rfl ⟨_, n, n, rfl, ⟨(fun h => by cases h), Nat.le_refl _, by omega⟩, ?_, M2.put _ _ (by simp)⟩
  exact (hO.set ⟨w.heap.size + 1, 0, none⟩ (.slice (some ⟨w.heap.size + 1 + 1, 0, none⟩) n n) (.inl (show w.heap.size + 1 < w.heap.size + 1 + 1 by omega))).wide (by omega) (by simp only [World.size_set]; exact Nat.le_refl _)

end Go.Proofs.Ytdlafigjkefllaa
namespace Go.Proofs.Ytdlafigjkefllaa
open Go.ChangeShapes Go.WideShapes Go.ChangeAt Go.RowKit
set_option linter.unusedVariables false
set_option maxRecDepth 100000 in
set_option maxHeartbeats 4000000 in
theorem implCloneMsgs (a : Option Addr) (n c B : Nat) (zs : List TMessage) (w : World) (h : HasMessage w B a n zs) (hB : B ≤ w.heap.size) (hs : szMessage zs n ≤ 1048576) :
    Calls Try.prog 91 #[.slice a n c] w (OutSMessage zs w) := by
  go_enter Try.func91, Try.ntmps91
  go_wp2_with fail
  refine (cloneAllSMessage (fun x => x) 93 a n c B zs w h hB hs (fun _ _ _ _ _ => rfl) (fun x a3 n3 c3 B1 w1 hr hB1 hb p1 p2 p3 => implCloneMsg a3 n3 c3 B1 x.data w1 hr hB1 hb)).mono ?_
  rintro e w' ho
  rw [List.map_id'] at ho
  obtain ⟨A, N, C, gs, rfl, ho⟩ := ho
  go_wp2_with fail
  go_ret
  exact ⟨A, N, C, gs, rfl, ho⟩
set_option maxRecDepth 100000 in
set_option maxHeartbeats 8000000 in
theorem specTexts (a : Option Addr) (n c B : Nat) (zs : List TMessage) (w : World) (h : HasMessage w B a n zs) (hB : B ≤ w.heap.size) (hs : szMessage zs n ≤ 1048576) :
    Calls Try.prog 88 #[.slice a n c] w (OutSMessage zs w) := by
  have hn := Nat.le_trans (szMessage_n zs n) hs
  obtain ⟨i0, hi0, hz0, hz1, hz2⟩ := info_parts infoRMessage
  obtain ⟨j0, hj0, hy0, hy1, hy2⟩ := info_parts infoU8
  go_enter Try.func88, Try.ntmps88
  go_wp2_with fail
  have hA := own_emptyR w 103 1
  have MA := Mk.alloc w (.cells #[] 103)
  go_loopw [3, 4] (fun v i wr => ∃ (k : Nat) (gs : List HMessage), k ≤ n ∧ i = .int .i64 (k : Int) ∧ gs.length = k ∧ wr.ownsRow w.heap.size 103 1 v k (rowC 1 HMessage.cell gs) ∧ Hid (Kids WMessage wr w.heap.size wr.heap.size (fun g => v.ownBlock = some g) k gs (zs.take k)) ∧ Mk0 w wr) (fun _ i _ => n - (intOf i).toNat)
  case atStart => exact ⟨0, [], Nat.zero_le _, rfl, rfl, hA, Lib.hid (Kids.none_ _ _ _ _ _ _ _), MA⟩
  case round =>
    clear hA MA
    obtain ⟨k, gs, hk, rfl, hgl, hown, hK, hM⟩ := hrel
    have hlow := hM.size
    by_cases hlt : k < n
    · obtain ⟨b, off, x, rfl, hb, hx, a3, n3, c3, d0, hr, p1, p2, p3⟩ := HasMessage.at _ _ _ _ _ _ (h.mk hM hB (.inr (Nat.le_refl _))) hlt
      try rw [Nat.mul_one] at d0
      have hbd : n3 ≤ 1048576 := by have h1 := szMessage_at zs hlt; rw [← hx.out] at h1; unfold seMessage at h1; have h2 : x.data.length = n3 := hr.1; omega
      have hbr := World.block_lt_of_cell? _ _ d0
      simp only at hbr
      have i1 : (0 : Int) ≤ (k : Int) := by omega
      have i2 : (k : Int) < (n : Int) := by omega
      have hBr := Nat.le_trans hB hM.size
      have HT := Lib.hid (show zs.take (k + 1) = zs.take k ++ [x] by rw [List.take_succ_eq_append_getElem (by rw [h.1]; exact hlt), hx.out, List.getD_eq_getElem?_getD, List.getElem?_eq_getElem (by rw [h.1]; exact hlt)]; rfl)
      have hE := own_emptyR wr 5 1
      have mA := Mk.alloc wr (.cells #[] 5)
      have hrA := hasR_int.1 ((hr.mk mA hBr (.inr (Nat.le_refl _))).mono (Nat.le_trans hBr mA.size))
      have hloA := mA.size
      go_wp2_with (first | (at_builtin; refine wpList_app (k := .u8) rfl (.tmp 13) (.tmp 18) 52 rfl wr.heap.size 5 j0 Try.underlying52 hj0 hy0 hy1 (by rw [hy2]; decide) _ [] 0 rfl hE a3 n3 c3 x.data rfl p3 hrA (by omega) hloA ?_; intro v1 w1 hown1 hgr1 hat1; simp only [Nat.zero_add, List.nil_append] at hown1; obtain ⟨A1, C1, rfl, hc1, hn1⟩ := ownsRow_sliceR2 hown1; have m1 := mA.appR hgr1 (fun g hg => (hE.lt g hg).1); have hO1 := (ownsRow_own hown1).toR (Nat.le_refl _); have mB := Mk.alloc w1 (Obj.cells #[.slice A1 n3 C1] 103); have mY := m1.trans mB; have hown2 := own_keptR hown mY; have hh := hasR_new (cell := HMessage.cell) (nc := 1) (by decide) w1 103 (⟨A1, n3, C1⟩ : HMessage) #[.slice A1 n3 C1] (fun j hj => by match j, hj with | 0, _ => rfl); have hlo : w.heap.size ≤ (w1.alloc (Obj.cells #[.slice A1 n3 C1] 103)).heap.size := Nat.le_trans hlow mY.size; have hK2 := Lib.hid (((hK.out.mk m1 (Nat.le_refl _) (.inr (.inr (Nat.le_refl _)))).snoc (g := (⟨A1, n3, C1⟩ : HMessage)) (x := x) hgl (by rw [List.length_take, h.1]; omega) hlow m1.size ⟨hO1, hn1.1, hn1.2, hc1⟩ (Nat.le_refl _) (fun q hq => .inl (hown.lt q hq).2)).mk mB (Nat.le_refl _) (.inr (.inr (Nat.le_refl _))))) | (at_builtin; refine wpList_appR4 (by decide) oneMessage rfl (.tmp 12) (.tmp 21) 57 rfl w.heap.size 103 i0 _ Try.underlying57 hi0 hz0 rfl hz1 (by rw [hz2]; decide) _ gs k rfl hown2 _ 1 1 [(⟨A1, n3, C1⟩ : HMessage)] rfl (fun h => by cases h) hh (by omega) hlo ?_; intro v2 w4 hown4 hgr hat))
      have M4 := (hM.trans mY).appR hgr (fun g hg => (hown2.lt g hg).1)
      have z4 := hgr.size
      have zB := mB.size
      have hK4 := hK2.out.grow hgr mB.size hat
      clear hK2 hat
      go_wp2_with fail
      go_roundw
      case rel => exact ⟨k + 1, gs ++ [(⟨A1, n3, C1⟩ : HMessage)], by omega, by go_num, by rw [List.length_append, hgl]; rfl, hown4, by rw [HT.out]; exact Lib.hid (hK4.wide (Nat.le_refl _) (by omega)), M4⟩
      case measure => simp [intOf]; omega
    · obtain rfl : k = n := by omega
      rw [List.take_of_length_le (by rw [h.1]; exact Nat.le_refl _)] at hK
      go_wp2_with fail
      go_ret
      obtain ⟨A, C, rfl, hca, hcb⟩ := ownsRow_sliceR2 hown
      exact ⟨A, k, C, gs, rfl, hown, hgl, h.1, hK.out, hM⟩

def OutSInbox (x0 x1 x2 : Int) (R : List TMessage) (w : World) (e : Ending) (w' : World) : Prop :=
  ∃ A N C gs, e = .returned (.agg #[.int .i64 x0, .int .i64 x1, .int .i64 x2, .slice A N C]) ∧ w'.ownsRow w.heap.size 103 1 (.slice A N C) N (rowC 1 HMessage.cell gs) ∧ gs.length = N ∧ R.length = N ∧ Kids WMessage w' w.heap.size w'.heap.size (fun g => (Value.slice A N C).ownBlock = some g) N gs R ∧ Mk0 w w'
set_option maxRecDepth 100000 in
set_option maxHeartbeats 8000000 in
theorem implCopyIn (x0 x1 x2 : Int) (a : Option Addr) (n c B : Nat) (zs : List TMessage) (w : World) (h : HasMessage w B a n zs) (hB : B ≤ w.heap.size) (hs : szMessage zs n ≤ 1048576) :
    Calls Try.prog 63 #[.agg #[.int .i64 x0, .int .i64 x1, .int .i64 x2, .slice a n c]] w (OutSInbox x0 x1 x2 zs w) := by
  have M0 : Mk0 w ((w.alloc (Obj.cells #[Value.int .i64 x0, Value.int .i64 x1, Value.int .i64 x2, Value.slice a n c] 59)).alloc (Obj.cells #[Value.int .i64 0, Value.int .i64 0, Value.int .i64 0, Value.slice none 0 0] 59)) := ((Mk.alloc w (Obj.cells #[Value.int .i64 x0, Value.int .i64 x1, Value.int .i64 x2, Value.slice a n c] 59)).new (Obj.cells #[Value.int .i64 0, Value.int .i64 0, Value.int .i64 0, Value.slice none 0 0] 59))
  have k0 : ((w.alloc (Obj.cells #[Value.int .i64 x0, Value.int .i64 x1, Value.int .i64 x2, Value.slice a n c] 59)).alloc (Obj.cells #[Value.int .i64 0, Value.int .i64 0, Value.int .i64 0, Value.slice none 0 0] 59)).cell? ⟨w.heap.size, 0, none⟩ = some (.int .i64 x0) := by simp [go_sem]
  have k1 : ((w.alloc (Obj.cells #[Value.int .i64 x0, Value.int .i64 x1, Value.int .i64 x2, Value.slice a n c] 59)).alloc (Obj.cells #[Value.int .i64 0, Value.int .i64 0, Value.int .i64 0, Value.slice none 0 0] 59)).cell? ⟨w.heap.size, 1, none⟩ = some (.int .i64 x1) := by simp [go_sem]
  have k2 : ((w.alloc (Obj.cells #[Value.int .i64 x0, Value.int .i64 x1, Value.int .i64 x2, Value.slice a n c] 59)).alloc (Obj.cells #[Value.int .i64 0, Value.int .i64 0, Value.int .i64 0, Value.slice none 0 0] 59)).cell? ⟨w.heap.size, 2, none⟩ = some (.int .i64 x2) := by simp [go_sem]
  have k3 : ((w.alloc (Obj.cells #[Value.int .i64 x0, Value.int .i64 x1, Value.int .i64 x2, Value.slice a n c] 59)).alloc (Obj.cells #[Value.int .i64 0, Value.int .i64 0, Value.int .i64 0, Value.slice none 0 0] 59)).cell? ⟨w.heap.size, 3, none⟩ = some (.slice a n c) := by simp [go_sem]
  have r0 : ((w.alloc (Obj.cells #[Value.int .i64 x0, Value.int .i64 x1, Value.int .i64 x2, Value.slice a n c] 59)).alloc (Obj.cells #[Value.int .i64 0, Value.int .i64 0, Value.int .i64 0, Value.slice none 0 0] 59)).cell? ⟨w.heap.size + 1, 0, none⟩ = some (.int .i64 0) := by simp [go_sem]
  have r1 : ((w.alloc (Obj.cells #[Value.int .i64 x0, Value.int .i64 x1, Value.int .i64 x2, Value.slice a n c] 59)).alloc (Obj.cells #[Value.int .i64 0, Value.int .i64 0, Value.int .i64 0, Value.slice none 0 0] 59)).cell? ⟨w.heap.size + 1, 1, none⟩ = some (.int .i64 0) := by simp [go_sem]
  have r2 : ((w.alloc (Obj.cells #[Value.int .i64 x0, Value.int .i64 x1, Value.int .i64 x2, Value.slice a n c] 59)).alloc (Obj.cells #[Value.int .i64 0, Value.int .i64 0, Value.int .i64 0, Value.slice none 0 0] 59)).cell? ⟨w.heap.size + 1, 2, none⟩ = some (.int .i64 0) := by simp [go_sem]
  have r3 : ((w.alloc (Obj.cells #[Value.int .i64 x0, Value.int .i64 x1, Value.int .i64 x2, Value.slice a n c] 59)).alloc (Obj.cells #[Value.int .i64 0, Value.int .i64 0, Value.int .i64 0, Value.slice none 0 0] 59)).cell? ⟨w.heap.size + 1, 3, none⟩ = some (.slice none 0 0) := by simp [go_sem]
  have hs0 : ((w.alloc (Obj.cells #[Value.int .i64 x0, Value.int .i64 x1, Value.int .i64 x2, Value.slice a n c] 59)).alloc (Obj.cells #[Value.int .i64 0, Value.int .i64 0, Value.int .i64 0, Value.slice none 0 0] 59)).heap.size = w.heap.size + 1 + 1 := by simp only [World.size_alloc]
  have fT : ∀ q, ((w.alloc (Obj.cells #[Value.int .i64 x0, Value.int .i64 x1, Value.int .i64 x2, Value.slice a n c] 59)).alloc (Obj.cells #[Value.int .i64 0, Value.int .i64 0, Value.int .i64 0, Value.slice none 0 0] 59)).frozen? ⟨w.heap.size, q, none⟩ = false := fun q => by simp [go_sem]
  have fR : ∀ q, ((w.alloc (Obj.cells #[Value.int .i64 x0, Value.int .i64 x1, Value.int .i64 x2, Value.slice a n c] 59)).alloc (Obj.cells #[Value.int .i64 0, Value.int .i64 0, Value.int .i64 0, Value.slice none 0 0] 59)).frozen? ⟨w.heap.size + 1, q, none⟩ = false := fun q => by simp [go_sem]
  go_enter Try.func63, Try.ntmps63
  go_wp2_with fail
  generalize ((w.alloc (Obj.cells #[Value.int .i64 x0, Value.int .i64 x1, Value.int .i64 x2, Value.slice a n c] 59)).alloc (Obj.cells #[Value.int .i64 0, Value.int .i64 0, Value.int .i64 0, Value.slice none 0 0] 59)) = wb at *
  refine (implCloneMsgs a n c B zs wb (h.mk M0 hB (.inr (Nat.le_refl _))) (Nat.le_trans hB M0.size) hs).mono ?_
  rintro e w2 ⟨A, N, C, gs, rfl, hO, hg, hR, hK, m2⟩
  replace k0 := m2.cellAt k0
  replace k1 := m2.cellAt k1
  replace k2 := m2.cellAt k2
  replace k3 := m2.cellAt k3
  replace r0 := m2.cellAt r0
  replace r1 := m2.cellAt r1
  replace r2 := m2.cellAt r2
  replace r3 := m2.cellAt r3
  replace fT : ∀ q, w2.frozen? ⟨w.heap.size, q, none⟩ = false := fun q => (m2.frozen (b := w.heap.size) (o := q) (by omega) (.inr (Nat.zero_le _))).trans (fT q)
  replace fR : ∀ q, w2.frozen? ⟨w.heap.size + 1, q, none⟩ = false := fun q => (m2.frozen (b := w.heap.size + 1) (o := q) (by omega) (.inr (Nat.zero_le _))).trans (fR q)
  have M := M0.trans m2
  have hz2 := m2.size
  rw [hs0] at hO hK
  go_wp2_with fail
  replace k0 := cell_set k0 ⟨w.heap.size, 3, none⟩ (.slice A N C) (.inr (by simp))
  replace k1 := cell_set k1 ⟨w.heap.size, 3, none⟩ (.slice A N C) (.inr (by simp))
  replace k2 := cell_set k2 ⟨w.heap.size, 3, none⟩ (.slice A N C) (.inr (by simp))
  replace k3 := World.cell?_setCell_same _ _ (.slice A N C) k3
  replace r0 := cell_set r0 ⟨w.heap.size, 3, none⟩ (.slice A N C) (.inl (show w.heap.size ≠ w.heap.size + 1 by omega))
  replace r1 := cell_set r1 ⟨w.heap.size, 3, none⟩ (.slice A N C) (.inl (show w.heap.size ≠ w.heap.size + 1 by omega))
  replace r2 := cell_set r2 ⟨w.heap.size, 3, none⟩ (.slice A N C) (.inl (show w.heap.size ≠ w.heap.size + 1 by omega))
  replace r3 := cell_set r3 ⟨w.heap.size, 3, none⟩ (.slice A N C) (.inl (show w.heap.size ≠ w.heap.size + 1 by omega))
  replace hO := own_put hO ⟨w.heap.size, 3, none⟩ (.slice A N C) (show w.heap.size < w.heap.size + 1 + 1 by omega)
  replace hK := hK.set ⟨w.heap.size, 3, none⟩ (.slice A N C) (.inr (.inl (show w.heap.size < w.heap.size + 1 + 1 by omega)))
  replace M := M.put ⟨w.heap.size, 3, none⟩ (.slice A N C) (show w.heap.size ≤ w.heap.size by omega)
  replace k0 := cell_set k0 ⟨w.heap.size + 1, 0, none⟩ (.int .i64 x0) (.inl (show w.heap.size + 1 ≠ w.heap.size by omega))
  replace k1 := cell_set k1 ⟨w.heap.size + 1, 0, none⟩ (.int .i64 x0) (.inl (show w.heap.size + 1 ≠ w.heap.size by omega))
  replace k2 := cell_set k2 ⟨w.heap.size + 1, 0, none⟩ (.int .i64 x0) (.inl (show w.heap.size + 1 ≠ w.heap.size by omega))
  replace k3 := cell_set k3 ⟨w.heap.size + 1, 0, none⟩ (.int .i64 x0) (.inl (show w.heap.size + 1 ≠ w.heap.size by omega))
  replace r0 := World.cell?_setCell_same _ _ (.int .i64 x0) r0
  replace r1 := cell_set r1 ⟨w.heap.size + 1, 0, none⟩ (.int .i64 x0) (.inr (by simp))
  replace r2 := cell_set r2 ⟨w.heap.size + 1, 0, none⟩ (.int .i64 x0) (.inr (by simp))
  replace r3 := cell_set r3 ⟨w.heap.size + 1, 0, none⟩ (.int .i64 x0) (.inr (by simp))
  replace hO := own_put hO ⟨w.heap.size + 1, 0, none⟩ (.int .i64 x0) (show w.heap.size + 1 < w.heap.size + 1 + 1 by omega)
  replace hK := hK.set ⟨w.heap.size + 1, 0, none⟩ (.int .i64 x0) (.inr (.inl (show w.heap.size + 1 < w.heap.size + 1 + 1 by omega)))
  replace M := M.put ⟨w.heap.size + 1, 0, none⟩ (.int .i64 x0) (show w.heap.size ≤ w.heap.size + 1 by omega)
  replace k0 := cell_set k0 ⟨w.heap.size + 1, 1, none⟩ (.int .i64 x1) (.inl (show w.heap.size + 1 ≠ w.heap.size by omega))
  replace k1 := cell_set k1 ⟨w.heap.size + 1, 1, none⟩ (.int .i64 x1) (.inl (show w.heap.size + 1 ≠ w.heap.size by omega))
  replace k2 := cell_set k2 ⟨w.heap.size + 1, 1, none⟩ (.int .i64 x1) (.inl (show w.heap.size + 1 ≠ w.heap.size by omega))
  replace k3 := cell_set k3 ⟨w.heap.size + 1, 1, none⟩ (.int .i64 x1) (.inl (show w.heap.size + 1 ≠ w.heap.size by omega))
  replace r0 := cell_set r0 ⟨w.heap.size + 1, 1, none⟩ (.int .i64 x1) (.inr (by simp))
  replace r1 := World.cell?_setCell_same _ _ (.int .i64 x1) r1
  replace r2 := cell_set r2 ⟨w.heap.size + 1, 1, none⟩ (.int .i64 x1) (.inr (by simp))
  replace r3 := cell_set r3 ⟨w.heap.size + 1, 1, none⟩ (.int .i64 x1) (.inr (by simp))
  replace hO := own_put hO ⟨w.heap.size + 1, 1, none⟩ (.int .i64 x1) (show w.heap.size + 1 < w.heap.size + 1 + 1 by omega)
  replace hK := hK.set ⟨w.heap.size + 1, 1, none⟩ (.int .i64 x1) (.inr (.inl (show w.heap.size + 1 < w.heap.size + 1 + 1 by omega)))
  replace M := M.put ⟨w.heap.size + 1, 1, none⟩ (.int .i64 x1) (show w.heap.size ≤ w.heap.size + 1 by omega)
  replace k0 := cell_set k0 ⟨w.heap.size + 1, 2, none⟩ (.int .i64 x2) (.inl (show w.heap.size + 1 ≠ w.heap.size by omega))
  replace k1 := cell_set k1 ⟨w.heap.size + 1, 2, none⟩ (.int .i64 x2) (.inl (show w.heap.size + 1 ≠ w.heap.size by omega))
  replace k2 := cell_set k2 ⟨w.heap.size + 1, 2, none⟩ (.int .i64 x2) (.inl (show w.heap.size + 1 ≠ w.heap.size by omega))
  replace k3 := cell_set k3 ⟨w.heap.size + 1, 2, none⟩ (.int .i64 x2) (.inl (show w.heap.size + 1 ≠ w.heap.size by omega))
  replace r0 := cell_set r0 ⟨w.heap.size + 1, 2, none⟩ (.int .i64 x2) (.inr (by simp))
  replace r1 := cell_set r1 ⟨w.heap.size + 1, 2, none⟩ (.int .i64 x2) (.inr (by simp))
  replace r2 := World.cell?_setCell_same _ _ (.int .i64 x2) r2
  replace r3 := cell_set r3 ⟨w.heap.size + 1, 2, none⟩ (.int .i64 x2) (.inr (by simp))
  replace hO := own_put hO ⟨w.heap.size + 1, 2, none⟩ (.int .i64 x2) (show w.heap.size + 1 < w.heap.size + 1 + 1 by omega)
  replace hK := hK.set ⟨w.heap.size + 1, 2, none⟩ (.int .i64 x2) (.inr (.inl (show w.heap.size + 1 < w.heap.size + 1 + 1 by omega)))
  replace M := M.put ⟨w.heap.size + 1, 2, none⟩ (.int .i64 x2) (show w.heap.size ≤ w.heap.size + 1 by omega)
  replace k0 := cell_set k0 ⟨w.heap.size + 1, 3, none⟩ (.slice A N C) (.inl (show w.heap.size + 1 ≠ w.heap.size by omega))
  replace k1 := cell_set k1 ⟨w.heap.size + 1, 3, none⟩ (.slice A N C) (.inl (show w.heap.size + 1 ≠ w.heap.size by omega))
  replace k2 := cell_set k2 ⟨w.heap.size + 1, 3, none⟩ (.slice A N C) (.inl (show w.heap.size + 1 ≠ w.heap.size by omega))
  replace k3 := cell_set k3 ⟨w.heap.size + 1, 3, none⟩ (.slice A N C) (.inl (show w.heap.size + 1 ≠ w.heap.size by omega))
  replace r0 := cell_set r0 ⟨w.heap.size + 1, 3, none⟩ (.slice A N C) (.inr (by simp))
  replace r1 := cell_set r1 ⟨w.heap.size + 1, 3, none⟩ (.slice A N C) (.inr (by simp))
  replace r2 := cell_set r2 ⟨w.heap.size + 1, 3, none⟩ (.slice A N C) (.inr (by simp))
  replace r3 := World.cell?_setCell_same _ _ (.slice A N C) r3
  replace hO := own_put hO ⟨w.heap.size + 1, 3, none⟩ (.slice A N C) (show w.heap.size + 1 < w.heap.size + 1 + 1 by omega)
  replace hK := hK.set ⟨w.heap.size + 1, 3, none⟩ (.slice A N C) (.inr (.inl (show w.heap.size + 1 < w.heap.size + 1 + 1 by omega)))
  replace M := M.put ⟨w.heap.size + 1, 3, none⟩ (.slice A N C) (show w.heap.size ≤ w.heap.size + 1 by omega)
  have hzF : (((((w2.setCell ⟨w.heap.size, 3, none⟩ (.slice A N C)).setCell ⟨w.heap.size + 1, 0, none⟩ (.int .i64 x0)).setCell ⟨w.heap.size + 1, 1, none⟩ (.int .i64 x1)).setCell ⟨w.heap.size + 1, 2, none⟩ (.int .i64 x2)).setCell ⟨w.heap.size + 1, 3, none⟩ (.slice A N C)).heap.size = w2.heap.size := by simp only [World.size_set]
  generalize (((((w2.setCell ⟨w.heap.size, 3, none⟩ (.slice A N C)).setCell ⟨w.heap.size + 1, 0, none⟩ (.int .i64 x0)).setCell ⟨w.heap.size + 1, 1, none⟩ (.int .i64 x1)).setCell ⟨w.heap.size + 1, 2, none⟩ (.int .i64 x2)).setCell ⟨w.heap.size + 1, 3, none⟩ (.slice A N C)) = WF at *
  exact bodyPost_ret (v := .agg #[.int .i64 x0, .int .i64 x1, .int .i64 x2, .slice A N C]) (by simp [results, Try.results63, go_sem, r0, r1, r2, r3]) rfl ⟨A, N, C, gs, rfl, own_lowR hO (by omega), hg, hR, hK.wide (by omega) (by omega), M⟩

set_option maxRecDepth 100000 in
set_option maxHeartbeats 8000000 in
theorem specCopyIn (x0 x1 x2 : Int) (a : Option Addr) (n c B : Nat) (zs : List TMessage) (w : World) (h : HasMessage w B a n zs) (hB : B ≤ w.heap.size) (hs : szMessage zs n ≤ 1048576) :
    Calls Try.prog 58 #[.agg #[.int .i64 x0, .int .i64 x1, .int .i64 x2, .slice a n c]] w (OutSInbox x0 x1 x2 zs w) := by
  have M0 : Mk0 w (((w.alloc (Obj.cells #[Value.int .i64 x0, Value.int .i64 x1, Value.int .i64 x2, Value.slice a n c] 59)).alloc (Obj.cells #[Value.int .i64 0, Value.int .i64 0, Value.int .i64 0, Value.slice none 0 0] 59)).alloc (Obj.cells #[Value.int .i64 x0, Value.int .i64 x1, Value.int .i64 x2, Value.slice a n c] 59)) := (((Mk.alloc w (Obj.cells #[Value.int .i64 x0, Value.int .i64 x1, Value.int .i64 x2, Value.slice a n c] 59)).new (Obj.cells #[Value.int .i64 0, Value.int .i64 0, Value.int .i64 0, Value.slice none 0 0] 59)).new (Obj.cells #[Value.int .i64 x0, Value.int .i64 x1, Value.int .i64 x2, Value.slice a n c] 59))
  have k0 : (((w.alloc (Obj.cells #[Value.int .i64 x0, Value.int .i64 x1, Value.int .i64 x2, Value.slice a n c] 59)).alloc (Obj.cells #[Value.int .i64 0, Value.int .i64 0, Value.int .i64 0, Value.slice none 0 0] 59)).alloc (Obj.cells #[Value.int .i64 x0, Value.int .i64 x1, Value.int .i64 x2, Value.slice a n c] 59)).cell? ⟨w.heap.size, 0, none⟩ = some (.int .i64 x0) := by simp [go_sem]
  have k1 : (((w.alloc (Obj.cells #[Value.int .i64 x0, Value.int .i64 x1, Value.int .i64 x2, Value.slice a n c] 59)).alloc (Obj.cells #[Value.int .i64 0, Value.int .i64 0, Value.int .i64 0, Value.slice none 0 0] 59)).alloc (Obj.cells #[Value.int .i64 x0, Value.int .i64 x1, Value.int .i64 x2, Value.slice a n c] 59)).cell? ⟨w.heap.size, 1, none⟩ = some (.int .i64 x1) := by simp [go_sem]
  have k2 : (((w.alloc (Obj.cells #[Value.int .i64 x0, Value.int .i64 x1, Value.int .i64 x2, Value.slice a n c] 59)).alloc (Obj.cells #[Value.int .i64 0, Value.int .i64 0, Value.int .i64 0, Value.slice none 0 0] 59)).alloc (Obj.cells #[Value.int .i64 x0, Value.int .i64 x1, Value.int .i64 x2, Value.slice a n c] 59)).cell? ⟨w.heap.size, 2, none⟩ = some (.int .i64 x2) := by simp [go_sem]
  have k3 : (((w.alloc (Obj.cells #[Value.int .i64 x0, Value.int .i64 x1, Value.int .i64 x2, Value.slice a n c] 59)).alloc (Obj.cells #[Value.int .i64 0, Value.int .i64 0, Value.int .i64 0, Value.slice none 0 0] 59)).alloc (Obj.cells #[Value.int .i64 x0, Value.int .i64 x1, Value.int .i64 x2, Value.slice a n c] 59)).cell? ⟨w.heap.size, 3, none⟩ = some (.slice a n c) := by simp [go_sem]
  have r0 : (((w.alloc (Obj.cells #[Value.int .i64 x0, Value.int .i64 x1, Value.int .i64 x2, Value.slice a n c] 59)).alloc (Obj.cells #[Value.int .i64 0, Value.int .i64 0, Value.int .i64 0, Value.slice none 0 0] 59)).alloc (Obj.cells #[Value.int .i64 x0, Value.int .i64 x1, Value.int .i64 x2, Value.slice a n c] 59)).cell? ⟨w.heap.size + 1, 0, none⟩ = some (.int .i64 0) := by simp [go_sem]
  have r1 : (((w.alloc (Obj.cells #[Value.int .i64 x0, Value.int .i64 x1, Value.int .i64 x2, Value.slice a n c] 59)).alloc (Obj.cells #[Value.int .i64 0, Value.int .i64 0, Value.int .i64 0, Value.slice none 0 0] 59)).alloc (Obj.cells #[Value.int .i64 x0, Value.int .i64 x1, Value.int .i64 x2, Value.slice a n c] 59)).cell? ⟨w.heap.size + 1, 1, none⟩ = some (.int .i64 0) := by simp [go_sem]
  have r2 : (((w.alloc (Obj.cells #[Value.int .i64 x0, Value.int .i64 x1, Value.int .i64 x2, Value.slice a n c] 59)).alloc (Obj.cells #[Value.int .i64 0, Value.int .i64 0, Value.int .i64 0, Value.slice none 0 0] 59)).alloc (Obj.cells #[Value.int .i64 x0, Value.int .i64 x1, Value.int .i64 x2, Value.slice a n c] 59)).cell? ⟨w.heap.size + 1, 2, none⟩ = some (.int .i64 0) := by simp [go_sem]
  have r3 : (((w.alloc (Obj.cells #[Value.int .i64 x0, Value.int .i64 x1, Value.int .i64 x2, Value.slice a n c] 59)).alloc (Obj.cells #[Value.int .i64 0, Value.int .i64 0, Value.int .i64 0, Value.slice none 0 0] 59)).alloc (Obj.cells #[Value.int .i64 x0, Value.int .i64 x1, Value.int .i64 x2, Value.slice a n c] 59)).cell? ⟨w.heap.size + 1, 3, none⟩ = some (.slice none 0 0) := by simp [go_sem]
  have q0 : (((w.alloc (Obj.cells #[Value.int .i64 x0, Value.int .i64 x1, Value.int .i64 x2, Value.slice a n c] 59)).alloc (Obj.cells #[Value.int .i64 0, Value.int .i64 0, Value.int .i64 0, Value.slice none 0 0] 59)).alloc (Obj.cells #[Value.int .i64 x0, Value.int .i64 x1, Value.int .i64 x2, Value.slice a n c] 59)).cell? ⟨w.heap.size + 1 + 1, 0, none⟩ = some (.int .i64 x0) := by simp [go_sem]
  have q1 : (((w.alloc (Obj.cells #[Value.int .i64 x0, Value.int .i64 x1, Value.int .i64 x2, Value.slice a n c] 59)).alloc (Obj.cells #[Value.int .i64 0, Value.int .i64 0, Value.int .i64 0, Value.slice none 0 0] 59)).alloc (Obj.cells #[Value.int .i64 x0, Value.int .i64 x1, Value.int .i64 x2, Value.slice a n c] 59)).cell? ⟨w.heap.size + 1 + 1, 1, none⟩ = some (.int .i64 x1) := by simp [go_sem]
  have q2 : (((w.alloc (Obj.cells #[Value.int .i64 x0, Value.int .i64 x1, Value.int .i64 x2, Value.slice a n c] 59)).alloc (Obj.cells #[Value.int .i64 0, Value.int .i64 0, Value.int .i64 0, Value.slice none 0 0] 59)).alloc (Obj.cells #[Value.int .i64 x0, Value.int .i64 x1, Value.int .i64 x2, Value.slice a n c] 59)).cell? ⟨w.heap.size + 1 + 1, 2, none⟩ = some (.int .i64 x2) := by simp [go_sem]
  have q3 : (((w.alloc (Obj.cells #[Value.int .i64 x0, Value.int .i64 x1, Value.int .i64 x2, Value.slice a n c] 59)).alloc (Obj.cells #[Value.int .i64 0, Value.int .i64 0, Value.int .i64 0, Value.slice none 0 0] 59)).alloc (Obj.cells #[Value.int .i64 x0, Value.int .i64 x1, Value.int .i64 x2, Value.slice a n c] 59)).cell? ⟨w.heap.size + 1 + 1, 3, none⟩ = some (.slice a n c) := by simp [go_sem]
  have hs0 : (((w.alloc (Obj.cells #[Value.int .i64 x0, Value.int .i64 x1, Value.int .i64 x2, Value.slice a n c] 59)).alloc (Obj.cells #[Value.int .i64 0, Value.int .i64 0, Value.int .i64 0, Value.slice none 0 0] 59)).alloc (Obj.cells #[Value.int .i64 x0, Value.int .i64 x1, Value.int .i64 x2, Value.slice a n c] 59)).heap.size = w.heap.size + 1 + 1 + 1 := by simp only [World.size_alloc]
  have fT : ∀ q, (((w.alloc (Obj.cells #[Value.int .i64 x0, Value.int .i64 x1, Value.int .i64 x2, Value.slice a n c] 59)).alloc (Obj.cells #[Value.int .i64 0, Value.int .i64 0, Value.int .i64 0, Value.slice none 0 0] 59)).alloc (Obj.cells #[Value.int .i64 x0, Value.int .i64 x1, Value.int .i64 x2, Value.slice a n c] 59)).frozen? ⟨w.heap.size + 1 + 1, q, none⟩ = false := fun q => by simp [go_sem]
  have fR : ∀ q, (((w.alloc (Obj.cells #[Value.int .i64 x0, Value.int .i64 x1, Value.int .i64 x2, Value.slice a n c] 59)).alloc (Obj.cells #[Value.int .i64 0, Value.int .i64 0, Value.int .i64 0, Value.slice none 0 0] 59)).alloc (Obj.cells #[Value.int .i64 x0, Value.int .i64 x1, Value.int .i64 x2, Value.slice a n c] 59)).frozen? ⟨w.heap.size + 1, q, none⟩ = false := fun q => by simp [go_sem]
  go_enter Try.func58, Try.ntmps58
  go_wp2_with fail
  generalize (((w.alloc (Obj.cells #[Value.int .i64 x0, Value.int .i64 x1, Value.int .i64 x2, Value.slice a n c] 59)).alloc (Obj.cells #[Value.int .i64 0, Value.int .i64 0, Value.int .i64 0, Value.slice none 0 0] 59)).alloc (Obj.cells #[Value.int .i64 x0, Value.int .i64 x1, Value.int .i64 x2, Value.slice a n c] 59)) = wb at *
  refine (specTexts a n c B zs wb (h.mk M0 hB (.inr (Nat.le_refl _))) (Nat.le_trans hB M0.size) hs).mono ?_
  rintro e w2 ⟨A, N, C, gs, rfl, hO, hg, hR, hK, m2⟩
  replace k0 := m2.cellAt k0
  replace k1 := m2.cellAt k1
  replace k2 := m2.cellAt k2
  replace k3 := m2.cellAt k3
  replace r0 := m2.cellAt r0
  replace r1 := m2.cellAt r1
  replace r2 := m2.cellAt r2
  replace r3 := m2.cellAt r3
  replace q0 := m2.cellAt q0
  replace q1 := m2.cellAt q1
  replace q2 := m2.cellAt q2
  replace q3 := m2.cellAt q3
  replace fT : ∀ q, w2.frozen? ⟨w.heap.size + 1 + 1, q, none⟩ = false := fun q => (m2.frozen (b := w.heap.size + 1 + 1) (o := q) (by omega) (.inr (Nat.zero_le _))).trans (fT q)
  replace fR : ∀ q, w2.frozen? ⟨w.heap.size + 1, q, none⟩ = false := fun q => (m2.frozen (b := w.heap.size + 1) (o := q) (by omega) (.inr (Nat.zero_le _))).trans (fR q)
  have M := M0.trans m2
  have hz2 := m2.size
  rw [hs0] at hO hK
  go_wp2_with fail
  replace k0 := cell_set k0 ⟨w.heap.size + 1 + 1, 3, none⟩ (.slice A N C) (.inl (show w.heap.size + 1 + 1 ≠ w.heap.size by omega))
  replace k1 := cell_set k1 ⟨w.heap.size + 1 + 1, 3, none⟩ (.slice A N C) (.inl (show w.heap.size + 1 + 1 ≠ w.heap.size by omega))
  replace k2 := cell_set k2 ⟨w.heap.size + 1 + 1, 3, none⟩ (.slice A N C) (.inl (show w.heap.size + 1 + 1 ≠ w.heap.size by omega))
  replace k3 := cell_set k3 ⟨w.heap.size + 1 + 1, 3, none⟩ (.slice A N C) (.inl (show w.heap.size + 1 + 1 ≠ w.heap.size by omega))
  replace r0 := cell_set r0 ⟨w.heap.size + 1 + 1, 3, none⟩ (.slice A N C) (.inl (show w.heap.size + 1 + 1 ≠ w.heap.size + 1 by omega))
  replace r1 := cell_set r1 ⟨w.heap.size + 1 + 1, 3, none⟩ (.slice A N C) (.inl (show w.heap.size + 1 + 1 ≠ w.heap.size + 1 by omega))
  replace r2 := cell_set r2 ⟨w.heap.size + 1 + 1, 3, none⟩ (.slice A N C) (.inl (show w.heap.size + 1 + 1 ≠ w.heap.size + 1 by omega))
  replace r3 := cell_set r3 ⟨w.heap.size + 1 + 1, 3, none⟩ (.slice A N C) (.inl (show w.heap.size + 1 + 1 ≠ w.heap.size + 1 by omega))
  replace q0 := cell_set q0 ⟨w.heap.size + 1 + 1, 3, none⟩ (.slice A N C) (.inr (by simp))
  replace q1 := cell_set q1 ⟨w.heap.size + 1 + 1, 3, none⟩ (.slice A N C) (.inr (by simp))
  replace q2 := cell_set q2 ⟨w.heap.size + 1 + 1, 3, none⟩ (.slice A N C) (.inr (by simp))
  replace q3 := World.cell?_setCell_same _ _ (.slice A N C) q3
  replace hO := own_put hO ⟨w.heap.size + 1 + 1, 3, none⟩ (.slice A N C) (show w.heap.size + 1 + 1 < w.heap.size + 1 + 1 + 1 by omega)
  replace hK := hK.set ⟨w.heap.size + 1 + 1, 3, none⟩ (.slice A N C) (.inr (.inl (show w.heap.size + 1 + 1 < w.heap.size + 1 + 1 + 1 by omega)))
  replace M := M.put ⟨w.heap.size + 1 + 1, 3, none⟩ (.slice A N C) (show w.heap.size ≤ w.heap.size + 1 + 1 by omega)
  replace k0 := cell_set k0 ⟨w.heap.size + 1, 0, none⟩ (.int .i64 x0) (.inl (show w.heap.size + 1 ≠ w.heap.size by omega))
  replace k1 := cell_set k1 ⟨w.heap.size + 1, 0, none⟩ (.int .i64 x0) (.inl (show w.heap.size + 1 ≠ w.heap.size by omega))
  replace k2 := cell_set k2 ⟨w.heap.size + 1, 0, none⟩ (.int .i64 x0) (.inl (show w.heap.size + 1 ≠ w.heap.size by omega))
  replace k3 := cell_set k3 ⟨w.heap.size + 1, 0, none⟩ (.int .i64 x0) (.inl (show w.heap.size + 1 ≠ w.heap.size by omega))
  replace r0 := World.cell?_setCell_same _ _ (.int .i64 x0) r0
  replace r1 := cell_set r1 ⟨w.heap.size + 1, 0, none⟩ (.int .i64 x0) (.inr (by simp))
  replace r2 := cell_set r2 ⟨w.heap.size + 1, 0, none⟩ (.int .i64 x0) (.inr (by simp))
  replace r3 := cell_set r3 ⟨w.heap.size + 1, 0, none⟩ (.int .i64 x0) (.inr (by simp))
  replace q0 := cell_set q0 ⟨w.heap.size + 1, 0, none⟩ (.int .i64 x0) (.inl (show w.heap.size + 1 ≠ w.heap.size + 1 + 1 by omega))
  replace q1 := cell_set q1 ⟨w.heap.size + 1, 0, none⟩ (.int .i64 x0) (.inl (show w.heap.size + 1 ≠ w.heap.size + 1 + 1 by omega))
  replace q2 := cell_set q2 ⟨w.heap.size + 1, 0, none⟩ (.int .i64 x0) (.inl (show w.heap.size + 1 ≠ w.heap.size + 1 + 1 by omega))
  replace q3 := cell_set q3 ⟨w.heap.size + 1, 0, none⟩ (.int .i64 x0) (.inl (show w.heap.size + 1 ≠ w.heap.size + 1 + 1 by omega))
  replace hO := own_put hO ⟨w.heap.size + 1, 0, none⟩ (.int .i64 x0) (show w.heap.size + 1 < w.heap.size + 1 + 1 + 1 by omega)
  replace hK := hK.set ⟨w.heap.size + 1, 0, none⟩ (.int .i64 x0) (.inr (.inl (show w.heap.size + 1 < w.heap.size + 1 + 1 + 1 by omega)))
  replace M := M.put ⟨w.heap.size + 1, 0, none⟩ (.int .i64 x0) (show w.heap.size ≤ w.heap.size + 1 by omega)
  replace k0 := cell_set k0 ⟨w.heap.size + 1, 1, none⟩ (.int .i64 x1) (.inl (show w.heap.size + 1 ≠ w.heap.size by omega))
  replace k1 := cell_set k1 ⟨w.heap.size + 1, 1, none⟩ (.int .i64 x1) (.inl (show w.heap.size + 1 ≠ w.heap.size by omega))
  replace k2 := cell_set k2 ⟨w.heap.size + 1, 1, none⟩ (.int .i64 x1) (.inl (show w.heap.size + 1 ≠ w.heap.size by omega))
  replace k3 := cell_set k3 ⟨w.heap.size + 1, 1, none⟩ (.int .i64 x1) (.inl (show w.heap.size + 1 ≠ w.heap.size by omega))
  replace r0 := cell_set r0 ⟨w.heap.size + 1, 1, none⟩ (.int .i64 x1) (.inr (by simp))
  replace r1 := World.cell?_setCell_same _ _ (.int .i64 x1) r1
  replace r2 := cell_set r2 ⟨w.heap.size + 1, 1, none⟩ (.int .i64 x1) (.inr (by simp))
  replace r3 := cell_set r3 ⟨w.heap.size + 1, 1, none⟩ (.int .i64 x1) (.inr (by simp))
  replace q0 := cell_set q0 ⟨w.heap.size + 1, 1, none⟩ (.int .i64 x1) (.inl (show w.heap.size + 1 ≠ w.heap.size + 1 + 1 by omega))
  replace q1 := cell_set q1 ⟨w.heap.size + 1, 1, none⟩ (.int .i64 x1) (.inl (show w.heap.size + 1 ≠ w.heap.size + 1 + 1 by omega))
  replace q2 := cell_set q2 ⟨w.heap.size + 1, 1, none⟩ (.int .i64 x1) (.inl (show w.heap.size + 1 ≠ w.heap.size + 1 + 1 by omega))
  replace q3 := cell_set q3 ⟨w.heap.size + 1, 1, none⟩ (.int .i64 x1) (.inl (show w.heap.size + 1 ≠ w.heap.size + 1 + 1 by omega))
  replace hO := own_put hO ⟨w.heap.size + 1, 1, none⟩ (.int .i64 x1) (show w.heap.size + 1 < w.heap.size + 1 + 1 + 1 by omega)
  replace hK := hK.set ⟨w.heap.size + 1, 1, none⟩ (.int .i64 x1) (.inr (.inl (show w.heap.size + 1 < w.heap.size + 1 + 1 + 1 by omega)))
  replace M := M.put ⟨w.heap.size + 1, 1, none⟩ (.int .i64 x1) (show w.heap.size ≤ w.heap.size + 1 by omega)
  replace k0 := cell_set k0 ⟨w.heap.size + 1, 2, none⟩ (.int .i64 x2) (.inl (show w.heap.size + 1 ≠ w.heap.size by omega))
  replace k1 := cell_set k1 ⟨w.heap.size + 1, 2, none⟩ (.int .i64 x2) (.inl (show w.heap.size + 1 ≠ w.heap.size by omega))
  replace k2 := cell_set k2 ⟨w.heap.size + 1, 2, none⟩ (.int .i64 x2) (.inl (show w.heap.size + 1 ≠ w.heap.size by omega))
  replace k3 := cell_set k3 ⟨w.heap.size + 1, 2, none⟩ (.int .i64 x2) (.inl (show w.heap.size + 1 ≠ w.heap.size by omega))
  replace r0 := cell_set r0 ⟨w.heap.size + 1, 2, none⟩ (.int .i64 x2) (.inr (by simp))
  replace r1 := cell_set r1 ⟨w.heap.size + 1, 2, none⟩ (.int .i64 x2) (.inr (by simp))
  replace r2 := World.cell?_setCell_same _ _ (.int .i64 x2) r2
  replace r3 := cell_set r3 ⟨w.heap.size + 1, 2, none⟩ (.int .i64 x2) (.inr (by simp))
  replace q0 := cell_set q0 ⟨w.heap.size + 1, 2, none⟩ (.int .i64 x2) (.inl (show w.heap.size + 1 ≠ w.heap.size + 1 + 1 by omega))
  replace q1 := cell_set q1 ⟨w.heap.size + 1, 2, none⟩ (.int .i64 x2) (.inl (show w.heap.size + 1 ≠ w.heap.size + 1 + 1 by omega))
  replace q2 := cell_set q2 ⟨w.heap.size + 1, 2, none⟩ (.int .i64 x2) (.inl (show w.heap.size + 1 ≠ w.heap.size + 1 + 1 by omega))
  replace q3 := cell_set q3 ⟨w.heap.size + 1, 2, none⟩ (.int .i64 x2) (.inl (show w.heap.size + 1 ≠ w.heap.size + 1 + 1 by omega))
  replace hO := own_put hO ⟨w.heap.size + 1, 2, none⟩ (.int .i64 x2) (show w.heap.size + 1 < w.heap.size + 1 + 1 + 1 by omega)
  replace hK := hK.set ⟨w.heap.size + 1, 2, none⟩ (.int .i64 x2) (.inr (.inl (show w.heap.size + 1 < w.heap.size + 1 + 1 + 1 by omega)))
  replace M := M.put ⟨w.heap.size + 1, 2, none⟩ (.int .i64 x2) (show w.heap.size ≤ w.heap.size + 1 by omega)
  replace k0 := cell_set k0 ⟨w.heap.size + 1, 3, none⟩ (.slice A N C) (.inl (show w.heap.size + 1 ≠ w.heap.size by omega))
  replace k1 := cell_set k1 ⟨w.heap.size + 1, 3, none⟩ (.slice A N C) (.inl (show w.heap.size + 1 ≠ w.heap.size by omega))
  replace k2 := cell_set k2 ⟨w.heap.size + 1, 3, none⟩ (.slice A N C) (.inl (show w.heap.size + 1 ≠ w.heap.size by omega))
  replace k3 := cell_set k3 ⟨w.heap.size + 1, 3, none⟩ (.slice A N C) (.inl (show w.heap.size + 1 ≠ w.heap.size by omega))
  replace r0 := cell_set r0 ⟨w.heap.size + 1, 3, none⟩ (.slice A N C) (.inr (by simp))
  replace r1 := cell_set r1 ⟨w.heap.size + 1, 3, none⟩ (.slice A N C) (.inr (by simp))
  replace r2 := cell_set r2 ⟨w.heap.size + 1, 3, none⟩ (.slice A N C) (.inr (by simp))
  replace r3 := World.cell?_setCell_same _ _ (.slice A N C) r3
  replace q0 := cell_set q0 ⟨w.heap.size + 1, 3, none⟩ (.slice A N C) (.inl (show w.heap.size + 1 ≠ w.heap.size + 1 + 1 by omega))
  replace q1 := cell_set q1 ⟨w.heap.size + 1, 3, none⟩ (.slice A N C) (.inl (show w.heap.size + 1 ≠ w.heap.size + 1 + 1 by omega))
  replace q2 := cell_set q2 ⟨w.heap.size + 1, 3, none⟩ (.slice A N C) (.inl (show w.heap.size + 1 ≠ w.heap.size + 1 + 1 by omega))
  replace q3 := cell_set q3 ⟨w.heap.size + 1, 3, none⟩ (.slice A N C) (.inl (show w.heap.size + 1 ≠ w.heap.size + 1 + 1 by omega))
  replace hO := own_put hO ⟨w.heap.size + 1, 3, none⟩ (.slice A N C) (show w.heap.size + 1 < w.heap.size + 1 + 1 + 1 by omega)
  replace hK := hK.set ⟨w.heap.size + 1, 3, none⟩ (.slice A N C) (.inr (.inl (show w.heap.size + 1 < w.heap.size + 1 + 1 + 1 by omega)))
  replace M := M.put ⟨w.heap.size + 1, 3, none⟩ (.slice A N C) (show w.heap.size ≤ w.heap.size + 1 by omega)
  have hzF : (((((w2.setCell ⟨w.heap.size + 1 + 1, 3, none⟩ (.slice A N C)).setCell ⟨w.heap.size + 1, 0, none⟩ (.int .i64 x0)).setCell ⟨w.heap.size + 1, 1, none⟩ (.int .i64 x1)).setCell ⟨w.heap.size + 1, 2, none⟩ (.int .i64 x2)).setCell ⟨w.heap.size + 1, 3, none⟩ (.slice A N C)).heap.size = w2.heap.size := by simp only [World.size_set]
  generalize (((((w2.setCell ⟨w.heap.size + 1 + 1, 3, none⟩ (.slice A N C)).setCell ⟨w.heap.size + 1, 0, none⟩ (.int .i64 x0)).setCell ⟨w.heap.size + 1, 1, none⟩ (.int .i64 x1)).setCell ⟨w.heap.size + 1, 2, none⟩ (.int .i64 x2)).setCell ⟨w.heap.size + 1, 3, none⟩ (.slice A N C)) = WF at *
  exact bodyPost_ret (v := .agg #[.int .i64 x0, .int .i64 x1, .int .i64 x2, .slice A N C]) (by simp [results, Try.results58, go_sem, r0, r1, r2, r3]) rfl ⟨A, N, C, gs, rfl, own_lowR hO (by omega), hg, hR, hK.wide (by omega) (by omega), M⟩

end Go.Proofs.Ytdlafigjkefllaa
namespace Go.Proofs.Ytdlafigjkefllaa
open Go.ChangeShapes Go.WideShapes Go.ChangeAt Go.RowKit
set_option linter.unusedVariables false
def forB (x0 x1 p0 p1 p2 : Int) : Bool := (p0 == 1) && ((p1 == x1) && (p2 == x0))
def hdB (x0 x1 x2 p0 p1 p2 p8 : Int) : Bool := forB x0 x1 p0 p1 p2 && ((p8 == x2) && decide (x2 < 20))
def nextV (b : Bool) (x : Int) : Int := match b with | true => x + 1 | false => x
def moreL (b : Bool) (zs : List TMessage) (x : TMessage) : List TMessage := match b with | true => zs ++ [x] | false => zs
def OutInb (x0 x1 x2 : Int) (R : List TMessage) (w : World) (e : Ending) (w' : World) : Prop :=
  ∃ A N C, e = .returned (.agg #[.int .i64 x0, .int .i64 x1, .int .i64 x2, .slice A N C]) ∧ ((A = none → C = 0) ∧ (N ≤ C ∧ C ≤ 9223372036854775807)) ∧ OwnN WMessage w' w.heap.size w'.heap.size A N R ∧ Mk0 w w'
set_option maxRecDepth 100000 in
set_option maxHeartbeats 16000000 in
theorem implFor (x0 x1 : Int) (q : Nat) (p0 p1 p2 p4 p5 p6 p7 p8 : Int) (a3 : Option Addr) (n3 c3 : Nat) (ad9 : Addr) (n9 c9 : Nat) (w : World) (hq : q < w.heap.size) (q0 : w.cell? ⟨q, 0, none⟩ = some (.int .i64 x0)) (q1 : w.cell? ⟨q, 1, none⟩ = some (.int .i64 x1)) :
    Calls Try.prog 92 #[.pointer (some ⟨q, 0, none⟩), .agg #[.int .i64 p0, .int .i64 p1, .int .i64 p2, .slice a3 n3 c3, .int .i64 p4, .int .i64 p5, .int .i64 p6, .int .i64 p7, .int .i64 p8, .slice (some ad9) n9 c9]] w fun e w' => e = .returned (.bool (forB x0 x1 p0 p1 p2)) ∧ Mk0 w w' := by
  have M0 : Mk0 w (w.alloc (Obj.cells #[Value.int .i64 p0, Value.int .i64 p1, Value.int .i64 p2, Value.slice a3 n3 c3, Value.int .i64 p4, Value.int .i64 p5, Value.int .i64 p6, Value.int .i64 p7, Value.int .i64 p8, Value.slice (some ad9) n9 c9] 66)) := (Mk.alloc w (Obj.cells #[Value.int .i64 p0, Value.int .i64 p1, Value.int .i64 p2, Value.slice a3 n3 c3, Value.int .i64 p4, Value.int .i64 p5, Value.int .i64 p6, Value.int .i64 p7, Value.int .i64 p8, Value.slice (some ad9) n9 c9] 66))
  have u0 : (w.alloc (Obj.cells #[Value.int .i64 p0, Value.int .i64 p1, Value.int .i64 p2, Value.slice a3 n3 c3, Value.int .i64 p4, Value.int .i64 p5, Value.int .i64 p6, Value.int .i64 p7, Value.int .i64 p8, Value.slice (some ad9) n9 c9] 66)).cell? ⟨w.heap.size, 0, none⟩ = some (.int .i64 p0) := by simp [go_sem]
  have u1 : (w.alloc (Obj.cells #[Value.int .i64 p0, Value.int .i64 p1, Value.int .i64 p2, Value.slice a3 n3 c3, Value.int .i64 p4, Value.int .i64 p5, Value.int .i64 p6, Value.int .i64 p7, Value.int .i64 p8, Value.slice (some ad9) n9 c9] 66)).cell? ⟨w.heap.size, 1, none⟩ = some (.int .i64 p1) := by simp [go_sem]
  have u2 : (w.alloc (Obj.cells #[Value.int .i64 p0, Value.int .i64 p1, Value.int .i64 p2, Value.slice a3 n3 c3, Value.int .i64 p4, Value.int .i64 p5, Value.int .i64 p6, Value.int .i64 p7, Value.int .i64 p8, Value.slice (some ad9) n9 c9] 66)).cell? ⟨w.heap.size, 2, none⟩ = some (.int .i64 p2) := by simp [go_sem]
  have u3 : (w.alloc (Obj.cells #[Value.int .i64 p0, Value.int .i64 p1, Value.int .i64 p2, Value.slice a3 n3 c3, Value.int .i64 p4, Value.int .i64 p5, Value.int .i64 p6, Value.int .i64 p7, Value.int .i64 p8, Value.slice (some ad9) n9 c9] 66)).cell? ⟨w.heap.size, 3, none⟩ = some (.slice a3 n3 c3) := by simp [go_sem]
  have u4 : (w.alloc (Obj.cells #[Value.int .i64 p0, Value.int .i64 p1, Value.int .i64 p2, Value.slice a3 n3 c3, Value.int .i64 p4, Value.int .i64 p5, Value.int .i64 p6, Value.int .i64 p7, Value.int .i64 p8, Value.slice (some ad9) n9 c9] 66)).cell? ⟨w.heap.size, 4, none⟩ = some (.int .i64 p4) := by simp [go_sem]
  have u5 : (w.alloc (Obj.cells #[Value.int .i64 p0, Value.int .i64 p1, Value.int .i64 p2, Value.slice a3 n3 c3, Value.int .i64 p4, Value.int .i64 p5, Value.int .i64 p6, Value.int .i64 p7, Value.int .i64 p8, Value.slice (some ad9) n9 c9] 66)).cell? ⟨w.heap.size, 5, none⟩ = some (.int .i64 p5) := by simp [go_sem]
  have u6 : (w.alloc (Obj.cells #[Value.int .i64 p0, Value.int .i64 p1, Value.int .i64 p2, Value.slice a3 n3 c3, Value.int .i64 p4, Value.int .i64 p5, Value.int .i64 p6, Value.int .i64 p7, Value.int .i64 p8, Value.slice (some ad9) n9 c9] 66)).cell? ⟨w.heap.size, 6, none⟩ = some (.int .i64 p6) := by simp [go_sem]
  have u7 : (w.alloc (Obj.cells #[Value.int .i64 p0, Value.int .i64 p1, Value.int .i64 p2, Value.slice a3 n3 c3, Value.int .i64 p4, Value.int .i64 p5, Value.int .i64 p6, Value.int .i64 p7, Value.int .i64 p8, Value.slice (some ad9) n9 c9] 66)).cell? ⟨w.heap.size, 7, none⟩ = some (.int .i64 p7) := by simp [go_sem]
  have u8 : (w.alloc (Obj.cells #[Value.int .i64 p0, Value.int .i64 p1, Value.int .i64 p2, Value.slice a3 n3 c3, Value.int .i64 p4, Value.int .i64 p5, Value.int .i64 p6, Value.int .i64 p7, Value.int .i64 p8, Value.slice (some ad9) n9 c9] 66)).cell? ⟨w.heap.size, 8, none⟩ = some (.int .i64 p8) := by simp [go_sem]
  have u9 : (w.alloc (Obj.cells #[Value.int .i64 p0, Value.int .i64 p1, Value.int .i64 p2, Value.slice a3 n3 c3, Value.int .i64 p4, Value.int .i64 p5, Value.int .i64 p6, Value.int .i64 p7, Value.int .i64 p8, Value.slice (some ad9) n9 c9] 66)).cell? ⟨w.heap.size, 9, none⟩ = some (.slice (some ad9) n9 c9) := by simp [go_sem]
  have hs0 : (w.alloc (Obj.cells #[Value.int .i64 p0, Value.int .i64 p1, Value.int .i64 p2, Value.slice a3 n3 c3, Value.int .i64 p4, Value.int .i64 p5, Value.int .i64 p6, Value.int .i64 p7, Value.int .i64 p8, Value.slice (some ad9) n9 c9] 66)).heap.size = w.heap.size + 1 := by simp only [World.size_alloc]
  have q0' := M0.cellAt q0
  have q1' := M0.cellAt q1
  clear q0 q1
  cases e0 : (p0 == 1)
  · have E0 := Lib.hid e0
    go_enter Try.func92, Try.ntmps92
    go_wp2_with fail
    generalize (w.alloc (Obj.cells #[Value.int .i64 p0, Value.int .i64 p1, Value.int .i64 p2, Value.slice a3 n3 c3, Value.int .i64 p4, Value.int .i64 p5, Value.int .i64 p6, Value.int .i64 p7, Value.int .i64 p8, Value.slice (some ad9) n9 c9] 66)) = wb at *
    refine wp_region_wk (fun w' => Mk0 wb w' ∧ w'.cell? ⟨w.heap.size, 0, none⟩ = some (.int .i64 p0) ∧ w'.cell? ⟨w.heap.size, 1, none⟩ = some (.int .i64 p1) ∧ w'.cell? ⟨w.heap.size, 2, none⟩ = some (.int .i64 p2) ∧ w'.cell? ⟨q, 0, none⟩ = some (.int .i64 x0) ∧ w'.cell? ⟨q, 1, none⟩ = some (.int .i64 x1)) (by kernel_rfl) (by kernel_rfl) (⟨Mk.drew1 _, u0, u1, u2, q0', q1'⟩) ?_
    change Wk _ _ _ _ 22 0 _
    first | (refine Wk.skip (m := 21) (k := 0) rfl (by rfl) ?_) | (refine Wk.step (m := 21) (k := 0) (v := _) rfl (by rfl) (fun wv hS => by obtain ⟨s0, s1, s2, s3, s4, s5⟩ := hS; go_simp; try with_reducible rfl) ?_)
    try simp only [Act.put, List.getElem_toArray, List.getElem_cons_zero, List.setIfInBounds_toArray, List.set_cons_zero, List.set_cons_succ]
    first | (refine Wk.skip (m := 20) (k := 1) rfl (by rfl) ?_) | (refine Wk.step (m := 20) (k := 1) (v := _) rfl (by rfl) (fun wv hS => by obtain ⟨s0, s1, s2, s3, s4, s5⟩ := hS; go_simp; try with_reducible rfl) ?_)
    try simp only [Act.put, List.getElem_toArray, List.getElem_cons_succ, List.getElem_cons_zero, List.setIfInBounds_toArray, List.set_cons_zero, List.set_cons_succ]
    first | (refine Wk.skip (m := 19) (k := 2) rfl (by rfl) ?_) | (refine Wk.step (m := 19) (k := 2) (v := _) rfl (by rfl) (fun wv hS => by obtain ⟨s0, s1, s2, s3, s4, s5⟩ := hS; go_simp; try with_reducible rfl) ?_)
    try simp only [Act.put, List.getElem_toArray, List.getElem_cons_succ, List.getElem_cons_zero, List.setIfInBounds_toArray, List.set_cons_zero, List.set_cons_succ]
    first | (refine Wk.skip (m := 18) (k := 3) rfl (by rfl) ?_) | (refine Wk.step (m := 18) (k := 3) (v := _) rfl (by rfl) (fun wv hS => by obtain ⟨s0, s1, s2, s3, s4, s5⟩ := hS; go_simp; try with_reducible rfl) ?_)
    try simp only [Act.put, List.getElem_toArray, List.getElem_cons_succ, List.getElem_cons_zero, List.setIfInBounds_toArray, List.set_cons_zero, List.set_cons_succ]
    first | (refine Wk.skip (m := 17) (k := 4) rfl (by rfl) ?_) | (refine Wk.step (m := 17) (k := 4) (v := _) rfl (by rfl) (fun wv hS => by obtain ⟨s0, s1, s2, s3, s4, s5⟩ := hS; go_simp; try with_reducible rfl) ?_)
    try simp only [Act.put, List.getElem_toArray, List.getElem_cons_succ, List.getElem_cons_zero, List.setIfInBounds_toArray, List.set_cons_zero, List.set_cons_succ]
    first | (refine Wk.skip (m := 16) (k := 5) rfl (by rfl) ?_) | (refine Wk.step (m := 16) (k := 5) (v := _) rfl (by rfl) (fun wv hS => by obtain ⟨s0, s1, s2, s3, s4, s5⟩ := hS; go_simp; try with_reducible rfl) ?_)
    try simp only [Act.put, List.getElem_toArray, List.getElem_cons_succ, List.getElem_cons_zero, List.setIfInBounds_toArray, List.set_cons_zero, List.set_cons_succ]
    first | (refine Wk.skip (m := 15) (k := 6) rfl (by rfl) ?_) | (refine Wk.step (m := 15) (k := 6) (v := _) rfl (by rfl) (fun wv hS => by obtain ⟨s0, s1, s2, s3, s4, s5⟩ := hS; go_simp; try with_reducible rfl) ?_)
    try simp only [Act.put, List.getElem_toArray, List.getElem_cons_succ, List.getElem_cons_zero, List.setIfInBounds_toArray, List.set_cons_zero, List.set_cons_succ]
    first | (refine Wk.skip (m := 14) (k := 7) rfl (by rfl) ?_) | (refine Wk.step (m := 14) (k := 7) (v := _) rfl (by rfl) (fun wv hS => by obtain ⟨s0, s1, s2, s3, s4, s5⟩ := hS; go_simp; try with_reducible rfl) ?_)
    try simp only [Act.put, List.getElem_toArray, List.getElem_cons_succ, List.getElem_cons_zero, List.setIfInBounds_toArray, List.set_cons_zero, List.set_cons_succ]
    first | (refine Wk.skip (m := 13) (k := 8) rfl (by rfl) ?_) | (refine Wk.step (m := 13) (k := 8) (v := _) rfl (by rfl) (fun wv hS => by obtain ⟨s0, s1, s2, s3, s4, s5⟩ := hS; go_simp; try with_reducible rfl) ?_)
    try simp only [Act.put, List.getElem_toArray, List.getElem_cons_succ, List.getElem_cons_zero, List.setIfInBounds_toArray, List.set_cons_zero, List.set_cons_succ]
    first | (refine Wk.skip (m := 12) (k := 9) rfl (by rfl) ?_) | (refine Wk.step (m := 12) (k := 9) (v := _) rfl (by rfl) (fun wv hS => by obtain ⟨s0, s1, s2, s3, s4, s5⟩ := hS; go_simp; try with_reducible rfl) ?_)
    try simp only [Act.put, List.getElem_toArray, List.getElem_cons_succ, List.getElem_cons_zero, List.setIfInBounds_toArray, List.set_cons_zero, List.set_cons_succ]
    first | (refine Wk.skip (m := 11) (k := 10) rfl (by rfl) ?_) | (refine Wk.step (m := 11) (k := 10) (v := _) rfl (by rfl) (fun wv hS => by obtain ⟨s0, s1, s2, s3, s4, s5⟩ := hS; go_simp; try with_reducible rfl) ?_)
    try simp only [Act.put, List.getElem_toArray, List.getElem_cons_succ, List.getElem_cons_zero, List.setIfInBounds_toArray, List.set_cons_zero, List.set_cons_succ]
    first | (refine Wk.skip (m := 10) (k := 11) rfl (by rfl) ?_) | (refine Wk.step (m := 10) (k := 11) (v := _) rfl (by rfl) (fun wv hS => by obtain ⟨s0, s1, s2, s3, s4, s5⟩ := hS; go_simp; try with_reducible rfl) ?_)
    try simp only [Act.put, List.getElem_toArray, List.getElem_cons_succ, List.getElem_cons_zero, List.setIfInBounds_toArray, List.set_cons_zero, List.set_cons_succ]
    first | (refine Wk.skip (m := 9) (k := 12) rfl (by rfl) ?_) | (refine Wk.step (m := 9) (k := 12) (v := _) rfl (by rfl) (fun wv hS => by obtain ⟨s0, s1, s2, s3, s4, s5⟩ := hS; go_simp; try with_reducible rfl) ?_)
    try simp only [Act.put, List.getElem_toArray, List.getElem_cons_succ, List.getElem_cons_zero, List.setIfInBounds_toArray, List.set_cons_zero, List.set_cons_succ]
    first | (refine Wk.skip (m := 8) (k := 13) rfl (by rfl) ?_) | (refine Wk.step (m := 8) (k := 13) (v := _) rfl (by rfl) (fun wv hS => by obtain ⟨s0, s1, s2, s3, s4, s5⟩ := hS; go_simp; try with_reducible rfl) ?_)
    try simp only [Act.put, List.getElem_toArray, List.getElem_cons_succ, List.getElem_cons_zero, List.setIfInBounds_toArray, List.set_cons_zero, List.set_cons_succ]
    first | (refine Wk.skip (m := 7) (k := 14) rfl (by rfl) ?_) | (refine Wk.step (m := 7) (k := 14) (v := _) rfl (by rfl) (fun wv hS => by obtain ⟨s0, s1, s2, s3, s4, s5⟩ := hS; go_simp; try with_reducible rfl) ?_)
    try simp only [Act.put, List.getElem_toArray, List.getElem_cons_succ, List.getElem_cons_zero, List.setIfInBounds_toArray, List.set_cons_zero, List.set_cons_succ]
    first | (refine Wk.skip (m := 6) (k := 15) rfl (by rfl) ?_) | (refine Wk.step (m := 6) (k := 15) (v := _) rfl (by rfl) (fun wv hS => by obtain ⟨s0, s1, s2, s3, s4, s5⟩ := hS; go_simp; try with_reducible rfl) ?_)
    try simp only [Act.put, List.getElem_toArray, List.getElem_cons_succ, List.getElem_cons_zero, List.setIfInBounds_toArray, List.set_cons_zero, List.set_cons_succ]
    first | (refine Wk.skip (m := 5) (k := 16) rfl (by rfl) ?_) | (refine Wk.step (m := 5) (k := 16) (v := _) rfl (by rfl) (fun wv hS => by obtain ⟨s0, s1, s2, s3, s4, s5⟩ := hS; go_simp; try with_reducible rfl) ?_)
    try simp only [Act.put, List.getElem_toArray, List.getElem_cons_succ, List.getElem_cons_zero, List.setIfInBounds_toArray, List.set_cons_zero, List.set_cons_succ]
    first | (refine Wk.skip (m := 4) (k := 17) rfl (by rfl) ?_) | (refine Wk.step (m := 4) (k := 17) (v := _) rfl (by rfl) (fun wv hS => by obtain ⟨s0, s1, s2, s3, s4, s5⟩ := hS; go_simp; try with_reducible rfl) ?_)
    try simp only [Act.put, List.getElem_toArray, List.getElem_cons_succ, List.getElem_cons_zero, List.setIfInBounds_toArray, List.set_cons_zero, List.set_cons_succ]
    first | (refine Wk.skip (m := 3) (k := 18) rfl (by rfl) ?_) | (refine Wk.step (m := 3) (k := 18) (v := _) rfl (by rfl) (fun wv hS => by obtain ⟨s0, s1, s2, s3, s4, s5⟩ := hS; go_simp; try with_reducible rfl) ?_)
    try simp only [Act.put, List.getElem_toArray, List.getElem_cons_succ, List.getElem_cons_zero, List.setIfInBounds_toArray, List.set_cons_zero, List.set_cons_succ]
    first | (refine Wk.skip (m := 2) (k := 19) rfl (by rfl) ?_) | (refine Wk.step (m := 2) (k := 19) (v := _) rfl (by rfl) (fun wv hS => by obtain ⟨s0, s1, s2, s3, s4, s5⟩ := hS; go_simp; try with_reducible rfl) ?_)
    try simp only [Act.put, List.getElem_toArray, List.getElem_cons_succ, List.getElem_cons_zero, List.setIfInBounds_toArray, List.set_cons_zero, List.set_cons_succ]
    first | (refine Wk.skip (m := 1) (k := 20) rfl (by rfl) ?_) | (refine Wk.step (m := 1) (k := 20) (v := _) rfl (by rfl) (fun wv hS => by obtain ⟨s0, s1, s2, s3, s4, s5⟩ := hS; go_simp; try with_reducible rfl) ?_)
    try simp only [Act.put, List.getElem_toArray, List.getElem_cons_succ, List.getElem_cons_zero, List.setIfInBounds_toArray, List.set_cons_zero, List.set_cons_succ]
    first | (refine Wk.skip (m := 0) (k := 21) rfl (by rfl) ?_) | (refine Wk.step (m := 0) (k := 21) (v := _) rfl (by rfl) (fun wv hS => by obtain ⟨s0, s1, s2, s3, s4, s5⟩ := hS; go_simp; try with_reducible rfl) ?_)
    try simp only [Act.put, List.getElem_toArray, List.getElem_cons_succ, List.getElem_cons_zero, List.setIfInBounds_toArray, List.set_cons_zero, List.set_cons_succ]
    refine Wk.done fun wE hE => ?_
    clear u0 u1 u2 q0' q1'
    obtain ⟨mE, u0, u1, u2, q0', q1'⟩ := hE
    go_wp2_with fail
    go_ret
    exact ⟨retB (by unfold forB; rw [E0.out]; rfl), M0.trans mE⟩
  · have E0 := Lib.hid e0
    cases e1 : (p1 == x1)
    · have E1 := Lib.hid e1
      go_enter Try.func92, Try.ntmps92
      go_wp2_with fail
      generalize (w.alloc (Obj.cells #[Value.int .i64 p0, Value.int .i64 p1, Value.int .i64 p2, Value.slice a3 n3 c3, Value.int .i64 p4, Value.int .i64 p5, Value.int .i64 p6, Value.int .i64 p7, Value.int .i64 p8, Value.slice (some ad9) n9 c9] 66)) = wb at *
      refine wp_region_wk (fun w' => Mk0 wb w' ∧ w'.cell? ⟨w.heap.size, 0, none⟩ = some (.int .i64 p0) ∧ w'.cell? ⟨w.heap.size, 1, none⟩ = some (.int .i64 p1) ∧ w'.cell? ⟨w.heap.size, 2, none⟩ = some (.int .i64 p2) ∧ w'.cell? ⟨q, 0, none⟩ = some (.int .i64 x0) ∧ w'.cell? ⟨q, 1, none⟩ = some (.int .i64 x1)) (by kernel_rfl) (by kernel_rfl) (⟨Mk.drew1 _, u0, u1, u2, q0', q1'⟩) ?_
      change Wk _ _ _ _ 22 0 _
      first | (refine Wk.skip (m := 21) (k := 0) rfl (by rfl) ?_) | (refine Wk.step (m := 21) (k := 0) (v := _) rfl (by rfl) (fun wv hS => by obtain ⟨s0, s1, s2, s3, s4, s5⟩ := hS; go_simp; try with_reducible rfl) ?_)
      try simp only [Act.put, List.getElem_toArray, List.getElem_cons_zero, List.setIfInBounds_toArray, List.set_cons_zero, List.set_cons_succ]
      first | (refine Wk.skip (m := 20) (k := 1) rfl (by rfl) ?_) | (refine Wk.step (m := 20) (k := 1) (v := _) rfl (by rfl) (fun wv hS => by obtain ⟨s0, s1, s2, s3, s4, s5⟩ := hS; go_simp; try with_reducible rfl) ?_)
      try simp only [Act.put, List.getElem_toArray, List.getElem_cons_succ, List.getElem_cons_zero, List.setIfInBounds_toArray, List.set_cons_zero, List.set_cons_succ]
      first | (refine Wk.skip (m := 19) (k := 2) rfl (by rfl) ?_) | (refine Wk.step (m := 19) (k := 2) (v := _) rfl (by rfl) (fun wv hS => by obtain ⟨s0, s1, s2, s3, s4, s5⟩ := hS; go_simp; try with_reducible rfl) ?_)
      try simp only [Act.put, List.getElem_toArray, List.getElem_cons_succ, List.getElem_cons_zero, List.setIfInBounds_toArray, List.set_cons_zero, List.set_cons_succ]
      first | (refine Wk.skip (m := 18) (k := 3) rfl (by rfl) ?_) | (refine Wk.step (m := 18) (k := 3) (v := _) rfl (by rfl) (fun wv hS => by obtain ⟨s0, s1, s2, s3, s4, s5⟩ := hS; go_simp; try with_reducible rfl) ?_)
      try simp only [Act.put, List.getElem_toArray, List.getElem_cons_succ, List.getElem_cons_zero, List.setIfInBounds_toArray, List.set_cons_zero, List.set_cons_succ]
      first | (refine Wk.skip (m := 17) (k := 4) rfl (by rfl) ?_) | (refine Wk.step (m := 17) (k := 4) (v := _) rfl (by rfl) (fun wv hS => by obtain ⟨s0, s1, s2, s3, s4, s5⟩ := hS; go_simp; try with_reducible rfl) ?_)
      try simp only [Act.put, List.getElem_toArray, List.getElem_cons_succ, List.getElem_cons_zero, List.setIfInBounds_toArray, List.set_cons_zero, List.set_cons_succ]
      first | (refine Wk.skip (m := 16) (k := 5) rfl (by rfl) ?_) | (refine Wk.step (m := 16) (k := 5) (v := _) rfl (by rfl) (fun wv hS => by obtain ⟨s0, s1, s2, s3, s4, s5⟩ := hS; go_simp; try with_reducible rfl) ?_)
      try simp only [Act.put, List.getElem_toArray, List.getElem_cons_succ, List.getElem_cons_zero, List.setIfInBounds_toArray, List.set_cons_zero, List.set_cons_succ]
      first | (refine Wk.skip (m := 15) (k := 6) rfl (by rfl) ?_) | (refine Wk.step (m := 15) (k := 6) (v := _) rfl (by rfl) (fun wv hS => by obtain ⟨s0, s1, s2, s3, s4, s5⟩ := hS; go_simp; try with_reducible rfl) ?_)
      try simp only [Act.put, List.getElem_toArray, List.getElem_cons_succ, List.getElem_cons_zero, List.setIfInBounds_toArray, List.set_cons_zero, List.set_cons_succ]
      first | (refine Wk.skip (m := 14) (k := 7) rfl (by rfl) ?_) | (refine Wk.step (m := 14) (k := 7) (v := _) rfl (by rfl) (fun wv hS => by obtain ⟨s0, s1, s2, s3, s4, s5⟩ := hS; go_simp; try with_reducible rfl) ?_)
      try simp only [Act.put, List.getElem_toArray, List.getElem_cons_succ, List.getElem_cons_zero, List.setIfInBounds_toArray, List.set_cons_zero, List.set_cons_succ]
      first | (refine Wk.skip (m := 13) (k := 8) rfl (by rfl) ?_) | (refine Wk.step (m := 13) (k := 8) (v := _) rfl (by rfl) (fun wv hS => by obtain ⟨s0, s1, s2, s3, s4, s5⟩ := hS; go_simp; try with_reducible rfl) ?_)
      try simp only [Act.put, List.getElem_toArray, List.getElem_cons_succ, List.getElem_cons_zero, List.setIfInBounds_toArray, List.set_cons_zero, List.set_cons_succ]
      first | (refine Wk.skip (m := 12) (k := 9) rfl (by rfl) ?_) | (refine Wk.step (m := 12) (k := 9) (v := _) rfl (by rfl) (fun wv hS => by obtain ⟨s0, s1, s2, s3, s4, s5⟩ := hS; go_simp; try with_reducible rfl) ?_)
      try simp only [Act.put, List.getElem_toArray, List.getElem_cons_succ, List.getElem_cons_zero, List.setIfInBounds_toArray, List.set_cons_zero, List.set_cons_succ]
      first | (refine Wk.skip (m := 11) (k := 10) rfl (by rfl) ?_) | (refine Wk.step (m := 11) (k := 10) (v := _) rfl (by rfl) (fun wv hS => by obtain ⟨s0, s1, s2, s3, s4, s5⟩ := hS; go_simp; try with_reducible rfl) ?_)
      try simp only [Act.put, List.getElem_toArray, List.getElem_cons_succ, List.getElem_cons_zero, List.setIfInBounds_toArray, List.set_cons_zero, List.set_cons_succ]
      first | (refine Wk.skip (m := 10) (k := 11) rfl (by rfl) ?_) | (refine Wk.step (m := 10) (k := 11) (v := _) rfl (by rfl) (fun wv hS => by obtain ⟨s0, s1, s2, s3, s4, s5⟩ := hS; go_simp; try with_reducible rfl) ?_)
      try simp only [Act.put, List.getElem_toArray, List.getElem_cons_succ, List.getElem_cons_zero, List.setIfInBounds_toArray, List.set_cons_zero, List.set_cons_succ]
      first | (refine Wk.skip (m := 9) (k := 12) rfl (by rfl) ?_) | (refine Wk.step (m := 9) (k := 12) (v := _) rfl (by rfl) (fun wv hS => by obtain ⟨s0, s1, s2, s3, s4, s5⟩ := hS; go_simp; try with_reducible rfl) ?_)
      try simp only [Act.put, List.getElem_toArray, List.getElem_cons_succ, List.getElem_cons_zero, List.setIfInBounds_toArray, List.set_cons_zero, List.set_cons_succ]
      first | (refine Wk.skip (m := 8) (k := 13) rfl (by rfl) ?_) | (refine Wk.step (m := 8) (k := 13) (v := _) rfl (by rfl) (fun wv hS => by obtain ⟨s0, s1, s2, s3, s4, s5⟩ := hS; go_simp; try with_reducible rfl) ?_)
      try simp only [Act.put, List.getElem_toArray, List.getElem_cons_succ, List.getElem_cons_zero, List.setIfInBounds_toArray, List.set_cons_zero, List.set_cons_succ]
      first | (refine Wk.skip (m := 7) (k := 14) rfl (by rfl) ?_) | (refine Wk.step (m := 7) (k := 14) (v := _) rfl (by rfl) (fun wv hS => by obtain ⟨s0, s1, s2, s3, s4, s5⟩ := hS; go_simp; try with_reducible rfl) ?_)
      try simp only [Act.put, List.getElem_toArray, List.getElem_cons_succ, List.getElem_cons_zero, List.setIfInBounds_toArray, List.set_cons_zero, List.set_cons_succ]
      first | (refine Wk.skip (m := 6) (k := 15) rfl (by rfl) ?_) | (refine Wk.step (m := 6) (k := 15) (v := _) rfl (by rfl) (fun wv hS => by obtain ⟨s0, s1, s2, s3, s4, s5⟩ := hS; go_simp; try with_reducible rfl) ?_)
      try simp only [Act.put, List.getElem_toArray, List.getElem_cons_succ, List.getElem_cons_zero, List.setIfInBounds_toArray, List.set_cons_zero, List.set_cons_succ]
      first | (refine Wk.skip (m := 5) (k := 16) rfl (by rfl) ?_) | (refine Wk.step (m := 5) (k := 16) (v := _) rfl (by rfl) (fun wv hS => by obtain ⟨s0, s1, s2, s3, s4, s5⟩ := hS; go_simp; try with_reducible rfl) ?_)
      try simp only [Act.put, List.getElem_toArray, List.getElem_cons_succ, List.getElem_cons_zero, List.setIfInBounds_toArray, List.set_cons_zero, List.set_cons_succ]
      first | (refine Wk.skip (m := 4) (k := 17) rfl (by rfl) ?_) | (refine Wk.step (m := 4) (k := 17) (v := _) rfl (by rfl) (fun wv hS => by obtain ⟨s0, s1, s2, s3, s4, s5⟩ := hS; go_simp; try with_reducible rfl) ?_)
      try simp only [Act.put, List.getElem_toArray, List.getElem_cons_succ, List.getElem_cons_zero, List.setIfInBounds_toArray, List.set_cons_zero, List.set_cons_succ]
      first | (refine Wk.skip (m := 3) (k := 18) rfl (by rfl) ?_) | (refine Wk.step (m := 3) (k := 18) (v := _) rfl (by rfl) (fun wv hS => by obtain ⟨s0, s1, s2, s3, s4, s5⟩ := hS; go_simp; try with_reducible rfl) ?_)
      try simp only [Act.put, List.getElem_toArray, List.getElem_cons_succ, List.getElem_cons_zero, List.setIfInBounds_toArray, List.set_cons_zero, List.set_cons_succ]
      first | (refine Wk.skip (m := 2) (k := 19) rfl (by rfl) ?_) | (refine Wk.step (m := 2) (k := 19) (v := _) rfl (by rfl) (fun wv hS => by obtain ⟨s0, s1, s2, s3, s4, s5⟩ := hS; go_simp; try with_reducible rfl) ?_)
      try simp only [Act.put, List.getElem_toArray, List.getElem_cons_succ, List.getElem_cons_zero, List.setIfInBounds_toArray, List.set_cons_zero, List.set_cons_succ]
      first | (refine Wk.skip (m := 1) (k := 20) rfl (by rfl) ?_) | (refine Wk.step (m := 1) (k := 20) (v := _) rfl (by rfl) (fun wv hS => by obtain ⟨s0, s1, s2, s3, s4, s5⟩ := hS; go_simp; try with_reducible rfl) ?_)
      try simp only [Act.put, List.getElem_toArray, List.getElem_cons_succ, List.getElem_cons_zero, List.setIfInBounds_toArray, List.set_cons_zero, List.set_cons_succ]
      first | (refine Wk.skip (m := 0) (k := 21) rfl (by rfl) ?_) | (refine Wk.step (m := 0) (k := 21) (v := _) rfl (by rfl) (fun wv hS => by obtain ⟨s0, s1, s2, s3, s4, s5⟩ := hS; go_simp; try with_reducible rfl) ?_)
      try simp only [Act.put, List.getElem_toArray, List.getElem_cons_succ, List.getElem_cons_zero, List.setIfInBounds_toArray, List.set_cons_zero, List.set_cons_succ]
      refine Wk.done fun wE hE => ?_
      clear u0 u1 u2 q0' q1'
      obtain ⟨mE, u0, u1, u2, q0', q1'⟩ := hE
      go_wp2_with fail
      go_ret
      exact ⟨retB (by unfold forB; rw [E0.out, E1.out]; rfl), M0.trans mE⟩
    · have E1 := Lib.hid e1
      cases e2 : (p2 == x0)
      · have E2 := Lib.hid e2
        go_enter Try.func92, Try.ntmps92
        go_wp2_with fail
        generalize (w.alloc (Obj.cells #[Value.int .i64 p0, Value.int .i64 p1, Value.int .i64 p2, Value.slice a3 n3 c3, Value.int .i64 p4, Value.int .i64 p5, Value.int .i64 p6, Value.int .i64 p7, Value.int .i64 p8, Value.slice (some ad9) n9 c9] 66)) = wb at *
        refine wp_region_wk (fun w' => Mk0 wb w' ∧ w'.cell? ⟨w.heap.size, 0, none⟩ = some (.int .i64 p0) ∧ w'.cell? ⟨w.heap.size, 1, none⟩ = some (.int .i64 p1) ∧ w'.cell? ⟨w.heap.size, 2, none⟩ = some (.int .i64 p2) ∧ w'.cell? ⟨q, 0, none⟩ = some (.int .i64 x0) ∧ w'.cell? ⟨q, 1, none⟩ = some (.int .i64 x1)) (by kernel_rfl) (by kernel_rfl) (⟨Mk.drew1 _, u0, u1, u2, q0', q1'⟩) ?_
        change Wk _ _ _ _ 22 0 _
        first | (refine Wk.skip (m := 21) (k := 0) rfl (by rfl) ?_) | (refine Wk.step (m := 21) (k := 0) (v := _) rfl (by rfl) (fun wv hS => by obtain ⟨s0, s1, s2, s3, s4, s5⟩ := hS; go_simp; try with_reducible rfl) ?_)
        try simp only [Act.put, List.getElem_toArray, List.getElem_cons_zero, List.setIfInBounds_toArray, List.set_cons_zero, List.set_cons_succ]
        first | (refine Wk.skip (m := 20) (k := 1) rfl (by rfl) ?_) | (refine Wk.step (m := 20) (k := 1) (v := _) rfl (by rfl) (fun wv hS => by obtain ⟨s0, s1, s2, s3, s4, s5⟩ := hS; go_simp; try with_reducible rfl) ?_)
        try simp only [Act.put, List.getElem_toArray, List.getElem_cons_succ, List.getElem_cons_zero, List.setIfInBounds_toArray, List.set_cons_zero, List.set_cons_succ]
        first | (refine Wk.skip (m := 19) (k := 2) rfl (by rfl) ?_) | (refine Wk.step (m := 19) (k := 2) (v := _) rfl (by rfl) (fun wv hS => by obtain ⟨s0, s1, s2, s3, s4, s5⟩ := hS; go_simp; try with_reducible rfl) ?_)
        try simp only [Act.put, List.getElem_toArray, List.getElem_cons_succ, List.getElem_cons_zero, List.setIfInBounds_toArray, List.set_cons_zero, List.set_cons_succ]
        first | (refine Wk.skip (m := 18) (k := 3) rfl (by rfl) ?_) | (refine Wk.step (m := 18) (k := 3) (v := _) rfl (by rfl) (fun wv hS => by obtain ⟨s0, s1, s2, s3, s4, s5⟩ := hS; go_simp; try with_reducible rfl) ?_)
        try simp only [Act.put, List.getElem_toArray, List.getElem_cons_succ, List.getElem_cons_zero, List.setIfInBounds_toArray, List.set_cons_zero, List.set_cons_succ]
        first | (refine Wk.skip (m := 17) (k := 4) rfl (by rfl) ?_) | (refine Wk.step (m := 17) (k := 4) (v := _) rfl (by rfl) (fun wv hS => by obtain ⟨s0, s1, s2, s3, s4, s5⟩ := hS; go_simp; try with_reducible rfl) ?_)
        try simp only [Act.put, List.getElem_toArray, List.getElem_cons_succ, List.getElem_cons_zero, List.setIfInBounds_toArray, List.set_cons_zero, List.set_cons_succ]
        first | (refine Wk.skip (m := 16) (k := 5) rfl (by rfl) ?_) | (refine Wk.step (m := 16) (k := 5) (v := _) rfl (by rfl) (fun wv hS => by obtain ⟨s0, s1, s2, s3, s4, s5⟩ := hS; go_simp; try with_reducible rfl) ?_)
        try simp only [Act.put, List.getElem_toArray, List.getElem_cons_succ, List.getElem_cons_zero, List.setIfInBounds_toArray, List.set_cons_zero, List.set_cons_succ]
        first | (refine Wk.skip (m := 15) (k := 6) rfl (by rfl) ?_) | (refine Wk.step (m := 15) (k := 6) (v := _) rfl (by rfl) (fun wv hS => by obtain ⟨s0, s1, s2, s3, s4, s5⟩ := hS; go_simp; try with_reducible rfl) ?_)
        try simp only [Act.put, List.getElem_toArray, List.getElem_cons_succ, List.getElem_cons_zero, List.setIfInBounds_toArray, List.set_cons_zero, List.set_cons_succ]
        first | (refine Wk.skip (m := 14) (k := 7) rfl (by rfl) ?_) | (refine Wk.step (m := 14) (k := 7) (v := _) rfl (by rfl) (fun wv hS => by obtain ⟨s0, s1, s2, s3, s4, s5⟩ := hS; go_simp; try with_reducible rfl) ?_)
        try simp only [Act.put, List.getElem_toArray, List.getElem_cons_succ, List.getElem_cons_zero, List.setIfInBounds_toArray, List.set_cons_zero, List.set_cons_succ]
        first | (refine Wk.skip (m := 13) (k := 8) rfl (by rfl) ?_) | (refine Wk.step (m := 13) (k := 8) (v := _) rfl (by rfl) (fun wv hS => by obtain ⟨s0, s1, s2, s3, s4, s5⟩ := hS; go_simp; try with_reducible rfl) ?_)
        try simp only [Act.put, List.getElem_toArray, List.getElem_cons_succ, List.getElem_cons_zero, List.setIfInBounds_toArray, List.set_cons_zero, List.set_cons_succ]
        first | (refine Wk.skip (m := 12) (k := 9) rfl (by rfl) ?_) | (refine Wk.step (m := 12) (k := 9) (v := _) rfl (by rfl) (fun wv hS => by obtain ⟨s0, s1, s2, s3, s4, s5⟩ := hS; go_simp; try with_reducible rfl) ?_)
        try simp only [Act.put, List.getElem_toArray, List.getElem_cons_succ, List.getElem_cons_zero, List.setIfInBounds_toArray, List.set_cons_zero, List.set_cons_succ]
        first | (refine Wk.skip (m := 11) (k := 10) rfl (by rfl) ?_) | (refine Wk.step (m := 11) (k := 10) (v := _) rfl (by rfl) (fun wv hS => by obtain ⟨s0, s1, s2, s3, s4, s5⟩ := hS; go_simp; try with_reducible rfl) ?_)
        try simp only [Act.put, List.getElem_toArray, List.getElem_cons_succ, List.getElem_cons_zero, List.setIfInBounds_toArray, List.set_cons_zero, List.set_cons_succ]
        first | (refine Wk.skip (m := 10) (k := 11) rfl (by rfl) ?_) | (refine Wk.step (m := 10) (k := 11) (v := _) rfl (by rfl) (fun wv hS => by obtain ⟨s0, s1, s2, s3, s4, s5⟩ := hS; go_simp; try with_reducible rfl) ?_)
        try simp only [Act.put, List.getElem_toArray, List.getElem_cons_succ, List.getElem_cons_zero, List.setIfInBounds_toArray, List.set_cons_zero, List.set_cons_succ]
        first | (refine Wk.skip (m := 9) (k := 12) rfl (by rfl) ?_) | (refine Wk.step (m := 9) (k := 12) (v := _) rfl (by rfl) (fun wv hS => by obtain ⟨s0, s1, s2, s3, s4, s5⟩ := hS; go_simp; try with_reducible rfl) ?_)
        try simp only [Act.put, List.getElem_toArray, List.getElem_cons_succ, List.getElem_cons_zero, List.setIfInBounds_toArray, List.set_cons_zero, List.set_cons_succ]
        first | (refine Wk.skip (m := 8) (k := 13) rfl (by rfl) ?_) | (refine Wk.step (m := 8) (k := 13) (v := _) rfl (by rfl) (fun wv hS => by obtain ⟨s0, s1, s2, s3, s4, s5⟩ := hS; go_simp; try with_reducible rfl) ?_)
        try simp only [Act.put, List.getElem_toArray, List.getElem_cons_succ, List.getElem_cons_zero, List.setIfInBounds_toArray, List.set_cons_zero, List.set_cons_succ]
        first | (refine Wk.skip (m := 7) (k := 14) rfl (by rfl) ?_) | (refine Wk.step (m := 7) (k := 14) (v := _) rfl (by rfl) (fun wv hS => by obtain ⟨s0, s1, s2, s3, s4, s5⟩ := hS; go_simp; try with_reducible rfl) ?_)
        try simp only [Act.put, List.getElem_toArray, List.getElem_cons_succ, List.getElem_cons_zero, List.setIfInBounds_toArray, List.set_cons_zero, List.set_cons_succ]
        first | (refine Wk.skip (m := 6) (k := 15) rfl (by rfl) ?_) | (refine Wk.step (m := 6) (k := 15) (v := _) rfl (by rfl) (fun wv hS => by obtain ⟨s0, s1, s2, s3, s4, s5⟩ := hS; go_simp; try with_reducible rfl) ?_)
        try simp only [Act.put, List.getElem_toArray, List.getElem_cons_succ, List.getElem_cons_zero, List.setIfInBounds_toArray, List.set_cons_zero, List.set_cons_succ]
        first | (refine Wk.skip (m := 5) (k := 16) rfl (by rfl) ?_) | (refine Wk.step (m := 5) (k := 16) (v := _) rfl (by rfl) (fun wv hS => by obtain ⟨s0, s1, s2, s3, s4, s5⟩ := hS; go_simp; try with_reducible rfl) ?_)
        try simp only [Act.put, List.getElem_toArray, List.getElem_cons_succ, List.getElem_cons_zero, List.setIfInBounds_toArray, List.set_cons_zero, List.set_cons_succ]
        first | (refine Wk.skip (m := 4) (k := 17) rfl (by rfl) ?_) | (refine Wk.step (m := 4) (k := 17) (v := _) rfl (by rfl) (fun wv hS => by obtain ⟨s0, s1, s2, s3, s4, s5⟩ := hS; go_simp; try with_reducible rfl) ?_)
        try simp only [Act.put, List.getElem_toArray, List.getElem_cons_succ, List.getElem_cons_zero, List.setIfInBounds_toArray, List.set_cons_zero, List.set_cons_succ]
        first | (refine Wk.skip (m := 3) (k := 18) rfl (by rfl) ?_) | (refine Wk.step (m := 3) (k := 18) (v := _) rfl (by rfl) (fun wv hS => by obtain ⟨s0, s1, s2, s3, s4, s5⟩ := hS; go_simp; try with_reducible rfl) ?_)
        try simp only [Act.put, List.getElem_toArray, List.getElem_cons_succ, List.getElem_cons_zero, List.setIfInBounds_toArray, List.set_cons_zero, List.set_cons_succ]
        first | (refine Wk.skip (m := 2) (k := 19) rfl (by rfl) ?_) | (refine Wk.step (m := 2) (k := 19) (v := _) rfl (by rfl) (fun wv hS => by obtain ⟨s0, s1, s2, s3, s4, s5⟩ := hS; go_simp; try with_reducible rfl) ?_)
        try simp only [Act.put, List.getElem_toArray, List.getElem_cons_succ, List.getElem_cons_zero, List.setIfInBounds_toArray, List.set_cons_zero, List.set_cons_succ]
        first | (refine Wk.skip (m := 1) (k := 20) rfl (by rfl) ?_) | (refine Wk.step (m := 1) (k := 20) (v := _) rfl (by rfl) (fun wv hS => by obtain ⟨s0, s1, s2, s3, s4, s5⟩ := hS; go_simp; try with_reducible rfl) ?_)
        try simp only [Act.put, List.getElem_toArray, List.getElem_cons_succ, List.getElem_cons_zero, List.setIfInBounds_toArray, List.set_cons_zero, List.set_cons_succ]
        first | (refine Wk.skip (m := 0) (k := 21) rfl (by rfl) ?_) | (refine Wk.step (m := 0) (k := 21) (v := _) rfl (by rfl) (fun wv hS => by obtain ⟨s0, s1, s2, s3, s4, s5⟩ := hS; go_simp; try with_reducible rfl) ?_)
        try simp only [Act.put, List.getElem_toArray, List.getElem_cons_succ, List.getElem_cons_zero, List.setIfInBounds_toArray, List.set_cons_zero, List.set_cons_succ]
        refine Wk.done fun wE hE => ?_
        clear u0 u1 u2 q0' q1'
        obtain ⟨mE, u0, u1, u2, q0', q1'⟩ := hE
        go_wp2_with fail
        go_ret
        exact ⟨retB (by unfold forB; rw [E0.out, E1.out, E2.out]; rfl), M0.trans mE⟩
      · have E2 := Lib.hid e2
        go_enter Try.func92, Try.ntmps92
        go_wp2_with fail
        generalize (w.alloc (Obj.cells #[Value.int .i64 p0, Value.int .i64 p1, Value.int .i64 p2, Value.slice a3 n3 c3, Value.int .i64 p4, Value.int .i64 p5, Value.int .i64 p6, Value.int .i64 p7, Value.int .i64 p8, Value.slice (some ad9) n9 c9] 66)) = wb at *
        refine wp_region_wk (fun w' => Mk0 wb w' ∧ w'.cell? ⟨w.heap.size, 0, none⟩ = some (.int .i64 p0) ∧ w'.cell? ⟨w.heap.size, 1, none⟩ = some (.int .i64 p1) ∧ w'.cell? ⟨w.heap.size, 2, none⟩ = some (.int .i64 p2) ∧ w'.cell? ⟨q, 0, none⟩ = some (.int .i64 x0) ∧ w'.cell? ⟨q, 1, none⟩ = some (.int .i64 x1)) (by kernel_rfl) (by kernel_rfl) (⟨Mk.drew1 _, u0, u1, u2, q0', q1'⟩) ?_
        change Wk _ _ _ _ 22 0 _
        first | (refine Wk.skip (m := 21) (k := 0) rfl (by rfl) ?_) | (refine Wk.step (m := 21) (k := 0) (v := _) rfl (by rfl) (fun wv hS => by obtain ⟨s0, s1, s2, s3, s4, s5⟩ := hS; go_simp; try with_reducible rfl) ?_)
        try simp only [Act.put, List.getElem_toArray, List.getElem_cons_zero, List.setIfInBounds_toArray, List.set_cons_zero, List.set_cons_succ]
        first | (refine Wk.skip (m := 20) (k := 1) rfl (by rfl) ?_) | (refine Wk.step (m := 20) (k := 1) (v := _) rfl (by rfl) (fun wv hS => by obtain ⟨s0, s1, s2, s3, s4, s5⟩ := hS; go_simp; try with_reducible rfl) ?_)
        try simp only [Act.put, List.getElem_toArray, List.getElem_cons_succ, List.getElem_cons_zero, List.setIfInBounds_toArray, List.set_cons_zero, List.set_cons_succ]
        first | (refine Wk.skip (m := 19) (k := 2) rfl (by rfl) ?_) | (refine Wk.step (m := 19) (k := 2) (v := _) rfl (by rfl) (fun wv hS => by obtain ⟨s0, s1, s2, s3, s4, s5⟩ := hS; go_simp; try with_reducible rfl) ?_)
        try simp only [Act.put, List.getElem_toArray, List.getElem_cons_succ, List.getElem_cons_zero, List.setIfInBounds_toArray, List.set_cons_zero, List.set_cons_succ]
        first | (refine Wk.skip (m := 18) (k := 3) rfl (by rfl) ?_) | (refine Wk.step (m := 18) (k := 3) (v := _) rfl (by rfl) (fun wv hS => by obtain ⟨s0, s1, s2, s3, s4, s5⟩ := hS; go_simp; try with_reducible rfl) ?_)
        try simp only [Act.put, List.getElem_toArray, List.getElem_cons_succ, List.getElem_cons_zero, List.setIfInBounds_toArray, List.set_cons_zero, List.set_cons_succ]
        first | (refine Wk.skip (m := 17) (k := 4) rfl (by rfl) ?_) | (refine Wk.step (m := 17) (k := 4) (v := _) rfl (by rfl) (fun wv hS => by obtain ⟨s0, s1, s2, s3, s4, s5⟩ := hS; go_simp; try with_reducible rfl) ?_)
        try simp only [Act.put, List.getElem_toArray, List.getElem_cons_succ, List.getElem_cons_zero, List.setIfInBounds_toArray, List.set_cons_zero, List.set_cons_succ]
        first | (refine Wk.skip (m := 16) (k := 5) rfl (by rfl) ?_) | (refine Wk.step (m := 16) (k := 5) (v := _) rfl (by rfl) (fun wv hS => by obtain ⟨s0, s1, s2, s3, s4, s5⟩ := hS; go_simp; try with_reducible rfl) ?_)
        try simp only [Act.put, List.getElem_toArray, List.getElem_cons_succ, List.getElem_cons_zero, List.setIfInBounds_toArray, List.set_cons_zero, List.set_cons_succ]
        first | (refine Wk.skip (m := 15) (k := 6) rfl (by rfl) ?_) | (refine Wk.step (m := 15) (k := 6) (v := _) rfl (by rfl) (fun wv hS => by obtain ⟨s0, s1, s2, s3, s4, s5⟩ := hS; go_simp; try with_reducible rfl) ?_)
        try simp only [Act.put, List.getElem_toArray, List.getElem_cons_succ, List.getElem_cons_zero, List.setIfInBounds_toArray, List.set_cons_zero, List.set_cons_succ]
        first | (refine Wk.skip (m := 14) (k := 7) rfl (by rfl) ?_) | (refine Wk.step (m := 14) (k := 7) (v := _) rfl (by rfl) (fun wv hS => by obtain ⟨s0, s1, s2, s3, s4, s5⟩ := hS; go_simp; try with_reducible rfl) ?_)
        try simp only [Act.put, List.getElem_toArray, List.getElem_cons_succ, List.getElem_cons_zero, List.setIfInBounds_toArray, List.set_cons_zero, List.set_cons_succ]
        first | (refine Wk.skip (m := 13) (k := 8) rfl (by rfl) ?_) | (refine Wk.step (m := 13) (k := 8) (v := _) rfl (by rfl) (fun wv hS => by obtain ⟨s0, s1, s2, s3, s4, s5⟩ := hS; go_simp; try with_reducible rfl) ?_)
        try simp only [Act.put, List.getElem_toArray, List.getElem_cons_succ, List.getElem_cons_zero, List.setIfInBounds_toArray, List.set_cons_zero, List.set_cons_succ]
        first | (refine Wk.skip (m := 12) (k := 9) rfl (by rfl) ?_) | (refine Wk.step (m := 12) (k := 9) (v := _) rfl (by rfl) (fun wv hS => by obtain ⟨s0, s1, s2, s3, s4, s5⟩ := hS; go_simp; try with_reducible rfl) ?_)
        try simp only [Act.put, List.getElem_toArray, List.getElem_cons_succ, List.getElem_cons_zero, List.setIfInBounds_toArray, List.set_cons_zero, List.set_cons_succ]
        first | (refine Wk.skip (m := 11) (k := 10) rfl (by rfl) ?_) | (refine Wk.step (m := 11) (k := 10) (v := _) rfl (by rfl) (fun wv hS => by obtain ⟨s0, s1, s2, s3, s4, s5⟩ := hS; go_simp; try with_reducible rfl) ?_)
        try simp only [Act.put, List.getElem_toArray, List.getElem_cons_succ, List.getElem_cons_zero, List.setIfInBounds_toArray, List.set_cons_zero, List.set_cons_succ]
        first | (refine Wk.skip (m := 10) (k := 11) rfl (by rfl) ?_) | (refine Wk.step (m := 10) (k := 11) (v := _) rfl (by rfl) (fun wv hS => by obtain ⟨s0, s1, s2, s3, s4, s5⟩ := hS; go_simp; try with_reducible rfl) ?_)
        try simp only [Act.put, List.getElem_toArray, List.getElem_cons_succ, List.getElem_cons_zero, List.setIfInBounds_toArray, List.set_cons_zero, List.set_cons_succ]
        first | (refine Wk.skip (m := 9) (k := 12) rfl (by rfl) ?_) | (refine Wk.step (m := 9) (k := 12) (v := _) rfl (by rfl) (fun wv hS => by obtain ⟨s0, s1, s2, s3, s4, s5⟩ := hS; go_simp; try with_reducible rfl) ?_)
        try simp only [Act.put, List.getElem_toArray, List.getElem_cons_succ, List.getElem_cons_zero, List.setIfInBounds_toArray, List.set_cons_zero, List.set_cons_succ]
        first | (refine Wk.skip (m := 8) (k := 13) rfl (by rfl) ?_) | (refine Wk.step (m := 8) (k := 13) (v := _) rfl (by rfl) (fun wv hS => by obtain ⟨s0, s1, s2, s3, s4, s5⟩ := hS; go_simp; try with_reducible rfl) ?_)
        try simp only [Act.put, List.getElem_toArray, List.getElem_cons_succ, List.getElem_cons_zero, List.setIfInBounds_toArray, List.set_cons_zero, List.set_cons_succ]
        first | (refine Wk.skip (m := 7) (k := 14) rfl (by rfl) ?_) | (refine Wk.step (m := 7) (k := 14) (v := _) rfl (by rfl) (fun wv hS => by obtain ⟨s0, s1, s2, s3, s4, s5⟩ := hS; go_simp; try with_reducible rfl) ?_)
        try simp only [Act.put, List.getElem_toArray, List.getElem_cons_succ, List.getElem_cons_zero, List.setIfInBounds_toArray, List.set_cons_zero, List.set_cons_succ]
        first | (refine Wk.skip (m := 6) (k := 15) rfl (by rfl) ?_) | (refine Wk.step (m := 6) (k := 15) (v := _) rfl (by rfl) (fun wv hS => by obtain ⟨s0, s1, s2, s3, s4, s5⟩ := hS; go_simp; try with_reducible rfl) ?_)
        try simp only [Act.put, List.getElem_toArray, List.getElem_cons_succ, List.getElem_cons_zero, List.setIfInBounds_toArray, List.set_cons_zero, List.set_cons_succ]
        first | (refine Wk.skip (m := 5) (k := 16) rfl (by rfl) ?_) | (refine Wk.step (m := 5) (k := 16) (v := _) rfl (by rfl) (fun wv hS => by obtain ⟨s0, s1, s2, s3, s4, s5⟩ := hS; go_simp; try with_reducible rfl) ?_)
        try simp only [Act.put, List.getElem_toArray, List.getElem_cons_succ, List.getElem_cons_zero, List.setIfInBounds_toArray, List.set_cons_zero, List.set_cons_succ]
        first | (refine Wk.skip (m := 4) (k := 17) rfl (by rfl) ?_) | (refine Wk.step (m := 4) (k := 17) (v := _) rfl (by rfl) (fun wv hS => by obtain ⟨s0, s1, s2, s3, s4, s5⟩ := hS; go_simp; try with_reducible rfl) ?_)
        try simp only [Act.put, List.getElem_toArray, List.getElem_cons_succ, List.getElem_cons_zero, List.setIfInBounds_toArray, List.set_cons_zero, List.set_cons_succ]
        first | (refine Wk.skip (m := 3) (k := 18) rfl (by rfl) ?_) | (refine Wk.step (m := 3) (k := 18) (v := _) rfl (by rfl) (fun wv hS => by obtain ⟨s0, s1, s2, s3, s4, s5⟩ := hS; go_simp; try with_reducible rfl) ?_)
        try simp only [Act.put, List.getElem_toArray, List.getElem_cons_succ, List.getElem_cons_zero, List.setIfInBounds_toArray, List.set_cons_zero, List.set_cons_succ]
        first | (refine Wk.skip (m := 2) (k := 19) rfl (by rfl) ?_) | (refine Wk.step (m := 2) (k := 19) (v := _) rfl (by rfl) (fun wv hS => by obtain ⟨s0, s1, s2, s3, s4, s5⟩ := hS; go_simp; try with_reducible rfl) ?_)
        try simp only [Act.put, List.getElem_toArray, List.getElem_cons_succ, List.getElem_cons_zero, List.setIfInBounds_toArray, List.set_cons_zero, List.set_cons_succ]
        first | (refine Wk.skip (m := 1) (k := 20) rfl (by rfl) ?_) | (refine Wk.step (m := 1) (k := 20) (v := _) rfl (by rfl) (fun wv hS => by obtain ⟨s0, s1, s2, s3, s4, s5⟩ := hS; go_simp; try with_reducible rfl) ?_)
        try simp only [Act.put, List.getElem_toArray, List.getElem_cons_succ, List.getElem_cons_zero, List.setIfInBounds_toArray, List.set_cons_zero, List.set_cons_succ]
        first | (refine Wk.skip (m := 0) (k := 21) rfl (by rfl) ?_) | (refine Wk.step (m := 0) (k := 21) (v := _) rfl (by rfl) (fun wv hS => by obtain ⟨s0, s1, s2, s3, s4, s5⟩ := hS; go_simp; try with_reducible rfl) ?_)
        try simp only [Act.put, List.getElem_toArray, List.getElem_cons_succ, List.getElem_cons_zero, List.setIfInBounds_toArray, List.set_cons_zero, List.set_cons_succ]
        refine Wk.done fun wE hE => ?_
        clear u0 u1 u2 q0' q1'
        obtain ⟨mE, u0, u1, u2, q0', q1'⟩ := hE
        go_wp2_with fail
        go_ret
        exact ⟨retB (by unfold forB; rw [E0.out, E1.out, E2.out]; rfl), M0.trans mE⟩

set_option maxRecDepth 100000 in
set_option maxHeartbeats 40000000 in
theorem implHD (ww : World) (x0 x1 x2 : Int) (a : Option Addr) (n c : Nat) (gs : List HMessage) (zs : List TMessage) (q LO hi : Nat) (p0 p1 p2 p4 p5 p6 p7 p8 : Int) (a3 : Option Addr) (n3 c3 : Nat) (ad9 : Addr) (n9 c9 B9 : Nat) (z9 : List TByte) (w : World) (hq : q < w.heap.size) (hqw : ww.heap.size ≤ q) (hLq : q < LO) (hlo0 : LO ≤ hi) (hhi : hi ≤ w.heap.size) (q0 : w.cell? ⟨q, 0, none⟩ = some (.int .i64 x0)) (q1 : w.cell? ⟨q, 1, none⟩ = some (.int .i64 x1)) (q2 : w.cell? ⟨q, 2, none⟩ = some (.int .i64 x2)) (q3 : w.cell? ⟨q, 3, none⟩ = some (.slice a n c)) (fq : ∀ j, w.frozen? ⟨q, j, none⟩ = false) (hO : w.ownsRow LO 103 1 (.slice a n c) n (rowC 1 HMessage.cell gs)) (hg : gs.length = n) (hR : zs.length = n) (hn : n ≤ 1048576) (hK : Kids WMessage w LO hi (fun g => (Value.slice a n c).ownBlock = some g) n gs zs) (h9 : HasByte w B9 (some ad9) n9 z9) (hB9 : B9 ≤ w.heap.size) (hn9 : n9 ≤ 1048576) (hx2 : -9223372036854775808 ≤ x2) (mW : Mk0 ww w) :
    Calls Try.prog 64 #[.pointer (some ⟨q, 0, none⟩), .agg #[.int .i64 p0, .int .i64 p1, .int .i64 p2, .slice a3 n3 c3, .int .i64 p4, .int .i64 p5, .int .i64 p6, .int .i64 p7, .int .i64 p8, .slice (some ad9) n9 c9]] w fun e w' => (∃ v, e = .returned v) ∧ ∃ A N C gs', w'.cell? ⟨q, 0, none⟩ = some (.int .i64 x0) ∧ w'.cell? ⟨q, 1, none⟩ = some (.int .i64 x1) ∧ w'.cell? ⟨q, 2, none⟩ = some (.int .i64 (nextV (hdB x0 x1 x2 p0 p1 p2 p8) x2)) ∧ w'.cell? ⟨q, 3, none⟩ = some (.slice A N C) ∧ w'.ownsRow LO 103 1 (.slice A N C) N (rowC 1 HMessage.cell gs') ∧ gs'.length = N ∧ (moreL (hdB x0 x1 x2 p0 p1 p2 p8) zs ⟨z9⟩).length = N ∧ Kids WMessage w' LO w'.heap.size (fun g => (Value.slice A N C).ownBlock = some g) N gs' (moreL (hdB x0 x1 x2 p0 p1 p2 p8) zs ⟨z9⟩) ∧ (∀ b, b < LO → b ≠ q → w'.heap[b]? = w.heap[b]?) ∧ Mk0 ww w' := by
  have M0 : Mk0 w (w.alloc (Obj.cells #[Value.int .i64 p0, Value.int .i64 p1, Value.int .i64 p2, Value.slice a3 n3 c3, Value.int .i64 p4, Value.int .i64 p5, Value.int .i64 p6, Value.int .i64 p7, Value.int .i64 p8, Value.slice (some ad9) n9 c9] 66)) := (Mk.alloc w (Obj.cells #[Value.int .i64 p0, Value.int .i64 p1, Value.int .i64 p2, Value.slice a3 n3 c3, Value.int .i64 p4, Value.int .i64 p5, Value.int .i64 p6, Value.int .i64 p7, Value.int .i64 p8, Value.slice (some ad9) n9 c9] 66))
  have u0 : (w.alloc (Obj.cells #[Value.int .i64 p0, Value.int .i64 p1, Value.int .i64 p2, Value.slice a3 n3 c3, Value.int .i64 p4, Value.int .i64 p5, Value.int .i64 p6, Value.int .i64 p7, Value.int .i64 p8, Value.slice (some ad9) n9 c9] 66)).cell? ⟨w.heap.size, 0, none⟩ = some (.int .i64 p0) := by simp [go_sem]
  have u1 : (w.alloc (Obj.cells #[Value.int .i64 p0, Value.int .i64 p1, Value.int .i64 p2, Value.slice a3 n3 c3, Value.int .i64 p4, Value.int .i64 p5, Value.int .i64 p6, Value.int .i64 p7, Value.int .i64 p8, Value.slice (some ad9) n9 c9] 66)).cell? ⟨w.heap.size, 1, none⟩ = some (.int .i64 p1) := by simp [go_sem]
  have u2 : (w.alloc (Obj.cells #[Value.int .i64 p0, Value.int .i64 p1, Value.int .i64 p2, Value.slice a3 n3 c3, Value.int .i64 p4, Value.int .i64 p5, Value.int .i64 p6, Value.int .i64 p7, Value.int .i64 p8, Value.slice (some ad9) n9 c9] 66)).cell? ⟨w.heap.size, 2, none⟩ = some (.int .i64 p2) := by simp [go_sem]
  have u3 : (w.alloc (Obj.cells #[Value.int .i64 p0, Value.int .i64 p1, Value.int .i64 p2, Value.slice a3 n3 c3, Value.int .i64 p4, Value.int .i64 p5, Value.int .i64 p6, Value.int .i64 p7, Value.int .i64 p8, Value.slice (some ad9) n9 c9] 66)).cell? ⟨w.heap.size, 3, none⟩ = some (.slice a3 n3 c3) := by simp [go_sem]
  have u4 : (w.alloc (Obj.cells #[Value.int .i64 p0, Value.int .i64 p1, Value.int .i64 p2, Value.slice a3 n3 c3, Value.int .i64 p4, Value.int .i64 p5, Value.int .i64 p6, Value.int .i64 p7, Value.int .i64 p8, Value.slice (some ad9) n9 c9] 66)).cell? ⟨w.heap.size, 4, none⟩ = some (.int .i64 p4) := by simp [go_sem]
  have u5 : (w.alloc (Obj.cells #[Value.int .i64 p0, Value.int .i64 p1, Value.int .i64 p2, Value.slice a3 n3 c3, Value.int .i64 p4, Value.int .i64 p5, Value.int .i64 p6, Value.int .i64 p7, Value.int .i64 p8, Value.slice (some ad9) n9 c9] 66)).cell? ⟨w.heap.size, 5, none⟩ = some (.int .i64 p5) := by simp [go_sem]
  have u6 : (w.alloc (Obj.cells #[Value.int .i64 p0, Value.int .i64 p1, Value.int .i64 p2, Value.slice a3 n3 c3, Value.int .i64 p4, Value.int .i64 p5, Value.int .i64 p6, Value.int .i64 p7, Value.int .i64 p8, Value.slice (some ad9) n9 c9] 66)).cell? ⟨w.heap.size, 6, none⟩ = some (.int .i64 p6) := by simp [go_sem]
  have u7 : (w.alloc (Obj.cells #[Value.int .i64 p0, Value.int .i64 p1, Value.int .i64 p2, Value.slice a3 n3 c3, Value.int .i64 p4, Value.int .i64 p5, Value.int .i64 p6, Value.int .i64 p7, Value.int .i64 p8, Value.slice (some ad9) n9 c9] 66)).cell? ⟨w.heap.size, 7, none⟩ = some (.int .i64 p7) := by simp [go_sem]
  have u8 : (w.alloc (Obj.cells #[Value.int .i64 p0, Value.int .i64 p1, Value.int .i64 p2, Value.slice a3 n3 c3, Value.int .i64 p4, Value.int .i64 p5, Value.int .i64 p6, Value.int .i64 p7, Value.int .i64 p8, Value.slice (some ad9) n9 c9] 66)).cell? ⟨w.heap.size, 8, none⟩ = some (.int .i64 p8) := by simp [go_sem]
  have u9 : (w.alloc (Obj.cells #[Value.int .i64 p0, Value.int .i64 p1, Value.int .i64 p2, Value.slice a3 n3 c3, Value.int .i64 p4, Value.int .i64 p5, Value.int .i64 p6, Value.int .i64 p7, Value.int .i64 p8, Value.slice (some ad9) n9 c9] 66)).cell? ⟨w.heap.size, 9, none⟩ = some (.slice (some ad9) n9 c9) := by simp [go_sem]
  have hs0 : (w.alloc (Obj.cells #[Value.int .i64 p0, Value.int .i64 p1, Value.int .i64 p2, Value.slice a3 n3 c3, Value.int .i64 p4, Value.int .i64 p5, Value.int .i64 p6, Value.int .i64 p7, Value.int .i64 p8, Value.slice (some ad9) n9 c9] 66)).heap.size = w.heap.size + 1 := by simp only [World.size_alloc]
  obtain ⟨i0, hi0, hz0, hz1, hz2⟩ := info_parts infoRMessage
  replace q0 := M0.cellAt q0
  replace q1 := M0.cellAt q1
  replace q2 := M0.cellAt q2
  replace q3 := M0.cellAt q3
  replace fq : ∀ j, (w.alloc (Obj.cells #[Value.int .i64 p0, Value.int .i64 p1, Value.int .i64 p2, Value.slice a3 n3 c3, Value.int .i64 p4, Value.int .i64 p5, Value.int .i64 p6, Value.int .i64 p7, Value.int .i64 p8, Value.slice (some ad9) n9 c9] 66)).frozen? ⟨q, j, none⟩ = false := fun j => (M0.frozen (b := q) (o := j) hq (.inr (Nat.zero_le _))).trans (fq j)
  replace hO := own_keptR hO M0
  replace hK := hK.mk M0 hhi (.inr (.inr (Nat.le_refl _)))
  have hp9 := h9.mk M0 hB9 (.inr (Nat.le_refl _))
  have hB9b := Nat.le_trans hB9 M0.size
  have hqb := Nat.lt_of_lt_of_le hq M0.size
  have hhib := Nat.le_trans hhi M0.size
  have hgN := hg
  obtain ⟨FB, hFB⟩ : ∃ b, b = forB x0 x1 p0 p1 p2 := ⟨_, rfl⟩
  have HDB : Hid (hdB x0 x1 x2 p0 p1 p2 p8 = (FB && ((p8 == x2) && decide (x2 < 20)))) := Lib.hid (by rw [hFB]; rfl)
  replace hFB := Lib.hid hFB
  cases FB
  · have HN := Lib.hid (show hdB x0 x1 x2 p0 p1 p2 p8 = false by rw [HDB.out]; rfl)
    go_enter Try.func64, Try.ntmps64
    go_wp2_with fail
    generalize (w.alloc (Obj.cells #[Value.int .i64 p0, Value.int .i64 p1, Value.int .i64 p2, Value.slice a3 n3 c3, Value.int .i64 p4, Value.int .i64 p5, Value.int .i64 p6, Value.int .i64 p7, Value.int .i64 p8, Value.slice (some ad9) n9 c9] 66)) = wb at *
    refine wp_region_wk (fun w' => Mk0 wb w' ∧ w'.cell? ⟨w.heap.size, 0, none⟩ = some (.int .i64 p0) ∧ w'.cell? ⟨w.heap.size, 1, none⟩ = some (.int .i64 p1) ∧ w'.cell? ⟨w.heap.size, 2, none⟩ = some (.int .i64 p2) ∧ w'.cell? ⟨w.heap.size, 3, none⟩ = some (.slice a3 n3 c3) ∧ w'.cell? ⟨w.heap.size, 4, none⟩ = some (.int .i64 p4) ∧ w'.cell? ⟨w.heap.size, 5, none⟩ = some (.int .i64 p5) ∧ w'.cell? ⟨w.heap.size, 6, none⟩ = some (.int .i64 p6) ∧ w'.cell? ⟨w.heap.size, 7, none⟩ = some (.int .i64 p7) ∧ w'.cell? ⟨w.heap.size, 8, none⟩ = some (.int .i64 p8) ∧ w'.cell? ⟨w.heap.size, 9, none⟩ = some (.slice (some ad9) n9 c9) ∧ w'.cell? ⟨q, 0, none⟩ = some (.int .i64 x0) ∧ w'.cell? ⟨q, 1, none⟩ = some (.int .i64 x1) ∧ w'.cell? ⟨q, 2, none⟩ = some (.int .i64 x2) ∧ w'.cell? ⟨q, 3, none⟩ = some (.slice a n c)) (by kernel_rfl) (by kernel_rfl) (⟨Mk.drew1 _, u0, u1, u2, u3, u4, u5, u6, u7, u8, u9, q0, q1, q2, q3⟩) ?_
    change Wk _ _ _ _ 19 0 _
    first | (refine Wk.skip (m := 18) (k := 0) rfl (by rfl) ?_) | (refine Wk.step (m := 18) (k := 0) (v := _) rfl (by rfl) (fun wv hS => by obtain ⟨s0, s1, s2, s3, s4, s5, s6, s7, s8, s9, s10, s11, s12, s13, s14⟩ := hS; go_simp; try with_reducible rfl) ?_)
    try simp only [Act.put, List.getElem_toArray, List.getElem_cons_zero, List.setIfInBounds_toArray, List.set_cons_zero, List.set_cons_succ]
    first | (refine Wk.skip (m := 17) (k := 1) rfl (by rfl) ?_) | (refine Wk.step (m := 17) (k := 1) (v := _) rfl (by rfl) (fun wv hS => by obtain ⟨s0, s1, s2, s3, s4, s5, s6, s7, s8, s9, s10, s11, s12, s13, s14⟩ := hS; go_simp; try with_reducible rfl) ?_)
    try simp only [Act.put, List.getElem_toArray, List.getElem_cons_succ, List.getElem_cons_zero, List.setIfInBounds_toArray, List.set_cons_zero, List.set_cons_succ]
    refine Wk.call (m := 16) (k := 2) (v := .bool false) _ _ rfl (by rfl) (fun wv hS => by obtain ⟨s0, s1, s2, s3, s4, s5, s6, s7, s8, s9, s10, s11, s12, s13, s14⟩ := hS; go_simp; first | done | exact ⟨rfl, rfl⟩ | with_reducible rfl) (fun wv hS => ?_) ?_; · obtain ⟨s0, s1, s2, s3, s4, s5, s6, s7, s8, s9, s10, s11, s12, s13, s14⟩ := hS; refine (implFor x0 x1 q p0 p1 p2 p4 p5 p6 p7 p8 a3 n3 c3 ad9 n9 c9 wv (Nat.lt_of_lt_of_le hqb s0.size) s11 s12).mono ?_; rintro e w' ⟨he, mm⟩; exact ⟨by rw [he, ← hFB.out], ⟨s0.trans mm, mm.cellAt s1, mm.cellAt s2, mm.cellAt s3, mm.cellAt s4, mm.cellAt s5, mm.cellAt s6, mm.cellAt s7, mm.cellAt s8, mm.cellAt s9, mm.cellAt s10, mm.cellAt s11, mm.cellAt s12, mm.cellAt s13, mm.cellAt s14⟩⟩
    try simp only [Act.put, List.getElem_toArray, List.getElem_cons_succ, List.getElem_cons_zero, List.setIfInBounds_toArray, List.set_cons_zero, List.set_cons_succ]
    first | (refine Wk.skip (m := 15) (k := 3) rfl (by rfl) ?_) | (refine Wk.step (m := 15) (k := 3) (v := _) rfl (by rfl) (fun wv hS => by obtain ⟨s0, s1, s2, s3, s4, s5, s6, s7, s8, s9, s10, s11, s12, s13, s14⟩ := hS; go_simp; try with_reducible rfl) ?_)
    try simp only [Act.put, List.getElem_toArray, List.getElem_cons_succ, List.getElem_cons_zero, List.setIfInBounds_toArray, List.set_cons_zero, List.set_cons_succ]
    first | (refine Wk.skip (m := 14) (k := 4) rfl (by rfl) ?_) | (refine Wk.step (m := 14) (k := 4) (v := _) rfl (by rfl) (fun wv hS => by obtain ⟨s0, s1, s2, s3, s4, s5, s6, s7, s8, s9, s10, s11, s12, s13, s14⟩ := hS; go_simp; try with_reducible rfl) ?_)
    try simp only [Act.put, List.getElem_toArray, List.getElem_cons_succ, List.getElem_cons_zero, List.setIfInBounds_toArray, List.set_cons_zero, List.set_cons_succ]
    first | (refine Wk.skip (m := 13) (k := 5) rfl (by rfl) ?_) | (refine Wk.step (m := 13) (k := 5) (v := _) rfl (by rfl) (fun wv hS => by obtain ⟨s0, s1, s2, s3, s4, s5, s6, s7, s8, s9, s10, s11, s12, s13, s14⟩ := hS; go_simp; try with_reducible rfl) ?_)
    try simp only [Act.put, List.getElem_toArray, List.getElem_cons_succ, List.getElem_cons_zero, List.setIfInBounds_toArray, List.set_cons_zero, List.set_cons_succ]
    first | (refine Wk.skip (m := 12) (k := 6) rfl (by rfl) ?_) | (refine Wk.step (m := 12) (k := 6) (v := _) rfl (by rfl) (fun wv hS => by obtain ⟨s0, s1, s2, s3, s4, s5, s6, s7, s8, s9, s10, s11, s12, s13, s14⟩ := hS; go_simp; try with_reducible rfl) ?_)
    try simp only [Act.put, List.getElem_toArray, List.getElem_cons_succ, List.getElem_cons_zero, List.setIfInBounds_toArray, List.set_cons_zero, List.set_cons_succ]
    first | (refine Wk.skip (m := 11) (k := 7) rfl (by rfl) ?_) | (refine Wk.step (m := 11) (k := 7) (v := _) rfl (by rfl) (fun wv hS => by obtain ⟨s0, s1, s2, s3, s4, s5, s6, s7, s8, s9, s10, s11, s12, s13, s14⟩ := hS; go_simp; try with_reducible rfl) ?_)
    try simp only [Act.put, List.getElem_toArray, List.getElem_cons_succ, List.getElem_cons_zero, List.setIfInBounds_toArray, List.set_cons_zero, List.set_cons_succ]
    first | (refine Wk.skip (m := 10) (k := 8) rfl (by rfl) ?_) | (refine Wk.step (m := 10) (k := 8) (v := _) rfl (by rfl) (fun wv hS => by obtain ⟨s0, s1, s2, s3, s4, s5, s6, s7, s8, s9, s10, s11, s12, s13, s14⟩ := hS; go_simp; try with_reducible rfl) ?_)
    try simp only [Act.put, List.getElem_toArray, List.getElem_cons_succ, List.getElem_cons_zero, List.setIfInBounds_toArray, List.set_cons_zero, List.set_cons_succ]
    first | (refine Wk.skip (m := 9) (k := 9) rfl (by rfl) ?_) | (refine Wk.step (m := 9) (k := 9) (v := _) rfl (by rfl) (fun wv hS => by obtain ⟨s0, s1, s2, s3, s4, s5, s6, s7, s8, s9, s10, s11, s12, s13, s14⟩ := hS; go_simp; try with_reducible rfl) ?_)
    try simp only [Act.put, List.getElem_toArray, List.getElem_cons_succ, List.getElem_cons_zero, List.setIfInBounds_toArray, List.set_cons_zero, List.set_cons_succ]
    first | (refine Wk.skip (m := 8) (k := 10) rfl (by rfl) ?_) | (refine Wk.step (m := 8) (k := 10) (v := _) rfl (by rfl) (fun wv hS => by obtain ⟨s0, s1, s2, s3, s4, s5, s6, s7, s8, s9, s10, s11, s12, s13, s14⟩ := hS; go_simp; try with_reducible rfl) ?_)
    try simp only [Act.put, List.getElem_toArray, List.getElem_cons_succ, List.getElem_cons_zero, List.setIfInBounds_toArray, List.set_cons_zero, List.set_cons_succ]
    first | (refine Wk.skip (m := 7) (k := 11) rfl (by rfl) ?_) | (refine Wk.step (m := 7) (k := 11) (v := _) rfl (by rfl) (fun wv hS => by obtain ⟨s0, s1, s2, s3, s4, s5, s6, s7, s8, s9, s10, s11, s12, s13, s14⟩ := hS; go_simp; try with_reducible rfl) ?_)
    try simp only [Act.put, List.getElem_toArray, List.getElem_cons_succ, List.getElem_cons_zero, List.setIfInBounds_toArray, List.set_cons_zero, List.set_cons_succ]
    first | (refine Wk.skip (m := 6) (k := 12) rfl (by rfl) ?_) | (refine Wk.step (m := 6) (k := 12) (v := _) rfl (by rfl) (fun wv hS => by obtain ⟨s0, s1, s2, s3, s4, s5, s6, s7, s8, s9, s10, s11, s12, s13, s14⟩ := hS; go_simp; try with_reducible rfl) ?_)
    try simp only [Act.put, List.getElem_toArray, List.getElem_cons_succ, List.getElem_cons_zero, List.setIfInBounds_toArray, List.set_cons_zero, List.set_cons_succ]
    first | (refine Wk.skip (m := 5) (k := 13) rfl (by rfl) ?_) | (refine Wk.step (m := 5) (k := 13) (v := _) rfl (by rfl) (fun wv hS => by obtain ⟨s0, s1, s2, s3, s4, s5, s6, s7, s8, s9, s10, s11, s12, s13, s14⟩ := hS; go_simp; try with_reducible rfl) ?_)
    try simp only [Act.put, List.getElem_toArray, List.getElem_cons_succ, List.getElem_cons_zero, List.setIfInBounds_toArray, List.set_cons_zero, List.set_cons_succ]
    first | (refine Wk.skip (m := 4) (k := 14) rfl (by rfl) ?_) | (refine Wk.step (m := 4) (k := 14) (v := _) rfl (by rfl) (fun wv hS => by obtain ⟨s0, s1, s2, s3, s4, s5, s6, s7, s8, s9, s10, s11, s12, s13, s14⟩ := hS; go_simp; try with_reducible rfl) ?_)
    try simp only [Act.put, List.getElem_toArray, List.getElem_cons_succ, List.getElem_cons_zero, List.setIfInBounds_toArray, List.set_cons_zero, List.set_cons_succ]
    first | (refine Wk.skip (m := 3) (k := 15) rfl (by rfl) ?_) | (refine Wk.step (m := 3) (k := 15) (v := _) rfl (by rfl) (fun wv hS => by obtain ⟨s0, s1, s2, s3, s4, s5, s6, s7, s8, s9, s10, s11, s12, s13, s14⟩ := hS; go_simp; try with_reducible rfl) ?_)
    try simp only [Act.put, List.getElem_toArray, List.getElem_cons_succ, List.getElem_cons_zero, List.setIfInBounds_toArray, List.set_cons_zero, List.set_cons_succ]
    first | (refine Wk.skip (m := 2) (k := 16) rfl (by rfl) ?_) | (refine Wk.step (m := 2) (k := 16) (v := _) rfl (by rfl) (fun wv hS => by obtain ⟨s0, s1, s2, s3, s4, s5, s6, s7, s8, s9, s10, s11, s12, s13, s14⟩ := hS; go_simp; try with_reducible rfl) ?_)
    try simp only [Act.put, List.getElem_toArray, List.getElem_cons_succ, List.getElem_cons_zero, List.setIfInBounds_toArray, List.set_cons_zero, List.set_cons_succ]
    first | (refine Wk.skip (m := 1) (k := 17) rfl (by rfl) ?_) | (refine Wk.step (m := 1) (k := 17) (v := _) rfl (by rfl) (fun wv hS => by obtain ⟨s0, s1, s2, s3, s4, s5, s6, s7, s8, s9, s10, s11, s12, s13, s14⟩ := hS; go_simp; try with_reducible rfl) ?_)
    try simp only [Act.put, List.getElem_toArray, List.getElem_cons_succ, List.getElem_cons_zero, List.setIfInBounds_toArray, List.set_cons_zero, List.set_cons_succ]
    first | (refine Wk.skip (m := 0) (k := 18) rfl (by rfl) ?_) | (refine Wk.step (m := 0) (k := 18) (v := _) rfl (by rfl) (fun wv hS => by obtain ⟨s0, s1, s2, s3, s4, s5, s6, s7, s8, s9, s10, s11, s12, s13, s14⟩ := hS; go_simp; try with_reducible rfl) ?_)
    try simp only [Act.put, List.getElem_toArray, List.getElem_cons_succ, List.getElem_cons_zero, List.setIfInBounds_toArray, List.set_cons_zero, List.set_cons_succ]
    refine Wk.done fun wE hE => ?_
    clear u0 u1 u2 u3 u4 u5 u6 u7 u8 u9 q0 q1 q2 q3
    obtain ⟨mE, u0, u1, u2, u3, u4, u5, u6, u7, u8, u9, q0, q1, q2, q3⟩ := hE
    go_wp2_with fail
    rw [HN.out]
    exact bodyPost_end (results_none rfl _ _ _) rfl ⟨⟨_, rfl⟩, a, n, c, gs, q0, q1, q2, q3, own_keptR hO mE, hg, hR, (hK.mk mE hhib (.inr (.inr (Nat.le_refl _)))).wide (Nat.le_refl _) (Nat.le_trans hhib mE.size), (fun b hb _ => (M0.trans mE).block b (by omega) (.inr (Nat.zero_le _))), (mW.trans (M0.trans mE))⟩
  · cases e8 : (p8 == x2)
    · have E8 := Lib.hid e8
      have HN := Lib.hid (show hdB x0 x1 x2 p0 p1 p2 p8 = false by rw [HDB.out, E8.out]; rfl)
      go_enter Try.func64, Try.ntmps64
      go_wp2_with fail
      generalize (w.alloc (Obj.cells #[Value.int .i64 p0, Value.int .i64 p1, Value.int .i64 p2, Value.slice a3 n3 c3, Value.int .i64 p4, Value.int .i64 p5, Value.int .i64 p6, Value.int .i64 p7, Value.int .i64 p8, Value.slice (some ad9) n9 c9] 66)) = wb at *
      refine wp_region_wk (fun w' => Mk0 wb w' ∧ w'.cell? ⟨w.heap.size, 0, none⟩ = some (.int .i64 p0) ∧ w'.cell? ⟨w.heap.size, 1, none⟩ = some (.int .i64 p1) ∧ w'.cell? ⟨w.heap.size, 2, none⟩ = some (.int .i64 p2) ∧ w'.cell? ⟨w.heap.size, 3, none⟩ = some (.slice a3 n3 c3) ∧ w'.cell? ⟨w.heap.size, 4, none⟩ = some (.int .i64 p4) ∧ w'.cell? ⟨w.heap.size, 5, none⟩ = some (.int .i64 p5) ∧ w'.cell? ⟨w.heap.size, 6, none⟩ = some (.int .i64 p6) ∧ w'.cell? ⟨w.heap.size, 7, none⟩ = some (.int .i64 p7) ∧ w'.cell? ⟨w.heap.size, 8, none⟩ = some (.int .i64 p8) ∧ w'.cell? ⟨w.heap.size, 9, none⟩ = some (.slice (some ad9) n9 c9) ∧ w'.cell? ⟨q, 0, none⟩ = some (.int .i64 x0) ∧ w'.cell? ⟨q, 1, none⟩ = some (.int .i64 x1) ∧ w'.cell? ⟨q, 2, none⟩ = some (.int .i64 x2) ∧ w'.cell? ⟨q, 3, none⟩ = some (.slice a n c)) (by kernel_rfl) (by kernel_rfl) (⟨Mk.drew1 _, u0, u1, u2, u3, u4, u5, u6, u7, u8, u9, q0, q1, q2, q3⟩) ?_
      change Wk _ _ _ _ 19 0 _
      first | (refine Wk.skip (m := 18) (k := 0) rfl (by rfl) ?_) | (refine Wk.step (m := 18) (k := 0) (v := _) rfl (by rfl) (fun wv hS => by obtain ⟨s0, s1, s2, s3, s4, s5, s6, s7, s8, s9, s10, s11, s12, s13, s14⟩ := hS; go_simp; try with_reducible rfl) ?_)
      try simp only [Act.put, List.getElem_toArray, List.getElem_cons_zero, List.setIfInBounds_toArray, List.set_cons_zero, List.set_cons_succ]
      first | (refine Wk.skip (m := 17) (k := 1) rfl (by rfl) ?_) | (refine Wk.step (m := 17) (k := 1) (v := _) rfl (by rfl) (fun wv hS => by obtain ⟨s0, s1, s2, s3, s4, s5, s6, s7, s8, s9, s10, s11, s12, s13, s14⟩ := hS; go_simp; try with_reducible rfl) ?_)
      try simp only [Act.put, List.getElem_toArray, List.getElem_cons_succ, List.getElem_cons_zero, List.setIfInBounds_toArray, List.set_cons_zero, List.set_cons_succ]
      refine Wk.call (m := 16) (k := 2) (v := .bool true) _ _ rfl (by rfl) (fun wv hS => by obtain ⟨s0, s1, s2, s3, s4, s5, s6, s7, s8, s9, s10, s11, s12, s13, s14⟩ := hS; go_simp; first | done | exact ⟨rfl, rfl⟩ | with_reducible rfl) (fun wv hS => ?_) ?_; · obtain ⟨s0, s1, s2, s3, s4, s5, s6, s7, s8, s9, s10, s11, s12, s13, s14⟩ := hS; refine (implFor x0 x1 q p0 p1 p2 p4 p5 p6 p7 p8 a3 n3 c3 ad9 n9 c9 wv (Nat.lt_of_lt_of_le hqb s0.size) s11 s12).mono ?_; rintro e w' ⟨he, mm⟩; exact ⟨by rw [he, ← hFB.out], ⟨s0.trans mm, mm.cellAt s1, mm.cellAt s2, mm.cellAt s3, mm.cellAt s4, mm.cellAt s5, mm.cellAt s6, mm.cellAt s7, mm.cellAt s8, mm.cellAt s9, mm.cellAt s10, mm.cellAt s11, mm.cellAt s12, mm.cellAt s13, mm.cellAt s14⟩⟩
      try simp only [Act.put, List.getElem_toArray, List.getElem_cons_succ, List.getElem_cons_zero, List.setIfInBounds_toArray, List.set_cons_zero, List.set_cons_succ]
      first | (refine Wk.skip (m := 15) (k := 3) rfl (by rfl) ?_) | (refine Wk.step (m := 15) (k := 3) (v := _) rfl (by rfl) (fun wv hS => by obtain ⟨s0, s1, s2, s3, s4, s5, s6, s7, s8, s9, s10, s11, s12, s13, s14⟩ := hS; go_simp; try with_reducible rfl) ?_)
      try simp only [Act.put, List.getElem_toArray, List.getElem_cons_succ, List.getElem_cons_zero, List.setIfInBounds_toArray, List.set_cons_zero, List.set_cons_succ]
      first | (refine Wk.skip (m := 14) (k := 4) rfl (by rfl) ?_) | (refine Wk.step (m := 14) (k := 4) (v := _) rfl (by rfl) (fun wv hS => by obtain ⟨s0, s1, s2, s3, s4, s5, s6, s7, s8, s9, s10, s11, s12, s13, s14⟩ := hS; go_simp; try with_reducible rfl) ?_)
      try simp only [Act.put, List.getElem_toArray, List.getElem_cons_succ, List.getElem_cons_zero, List.setIfInBounds_toArray, List.set_cons_zero, List.set_cons_succ]
      first | (refine Wk.skip (m := 13) (k := 5) rfl (by rfl) ?_) | (refine Wk.step (m := 13) (k := 5) (v := _) rfl (by rfl) (fun wv hS => by obtain ⟨s0, s1, s2, s3, s4, s5, s6, s7, s8, s9, s10, s11, s12, s13, s14⟩ := hS; go_simp; try with_reducible rfl) ?_)
      try simp only [Act.put, List.getElem_toArray, List.getElem_cons_succ, List.getElem_cons_zero, List.setIfInBounds_toArray, List.set_cons_zero, List.set_cons_succ]
      first | (refine Wk.skip (m := 12) (k := 6) rfl (by rfl) ?_) | (refine Wk.step (m := 12) (k := 6) (v := _) rfl (by rfl) (fun wv hS => by obtain ⟨s0, s1, s2, s3, s4, s5, s6, s7, s8, s9, s10, s11, s12, s13, s14⟩ := hS; go_simp; try with_reducible rfl) ?_)
      try simp only [Act.put, List.getElem_toArray, List.getElem_cons_succ, List.getElem_cons_zero, List.setIfInBounds_toArray, List.set_cons_zero, List.set_cons_succ]
      first | (refine Wk.skip (m := 11) (k := 7) rfl (by rfl) ?_) | (refine Wk.step (m := 11) (k := 7) (v := _) rfl (by rfl) (fun wv hS => by obtain ⟨s0, s1, s2, s3, s4, s5, s6, s7, s8, s9, s10, s11, s12, s13, s14⟩ := hS; go_simp; try with_reducible rfl) ?_)
      try simp only [Act.put, List.getElem_toArray, List.getElem_cons_succ, List.getElem_cons_zero, List.setIfInBounds_toArray, List.set_cons_zero, List.set_cons_succ]
      first | (refine Wk.skip (m := 10) (k := 8) rfl (by rfl) ?_) | (refine Wk.step (m := 10) (k := 8) (v := _) rfl (by rfl) (fun wv hS => by obtain ⟨s0, s1, s2, s3, s4, s5, s6, s7, s8, s9, s10, s11, s12, s13, s14⟩ := hS; go_simp; try with_reducible rfl) ?_)
      try simp only [Act.put, List.getElem_toArray, List.getElem_cons_succ, List.getElem_cons_zero, List.setIfInBounds_toArray, List.set_cons_zero, List.set_cons_succ]
      first | (refine Wk.skip (m := 9) (k := 9) rfl (by rfl) ?_) | (refine Wk.step (m := 9) (k := 9) (v := _) rfl (by rfl) (fun wv hS => by obtain ⟨s0, s1, s2, s3, s4, s5, s6, s7, s8, s9, s10, s11, s12, s13, s14⟩ := hS; go_simp; try with_reducible rfl) ?_)
      try simp only [Act.put, List.getElem_toArray, List.getElem_cons_succ, List.getElem_cons_zero, List.setIfInBounds_toArray, List.set_cons_zero, List.set_cons_succ]
      first | (refine Wk.skip (m := 8) (k := 10) rfl (by rfl) ?_) | (refine Wk.step (m := 8) (k := 10) (v := _) rfl (by rfl) (fun wv hS => by obtain ⟨s0, s1, s2, s3, s4, s5, s6, s7, s8, s9, s10, s11, s12, s13, s14⟩ := hS; go_simp; try with_reducible rfl) ?_)
      try simp only [Act.put, List.getElem_toArray, List.getElem_cons_succ, List.getElem_cons_zero, List.setIfInBounds_toArray, List.set_cons_zero, List.set_cons_succ]
      first | (refine Wk.skip (m := 7) (k := 11) rfl (by rfl) ?_) | (refine Wk.step (m := 7) (k := 11) (v := _) rfl (by rfl) (fun wv hS => by obtain ⟨s0, s1, s2, s3, s4, s5, s6, s7, s8, s9, s10, s11, s12, s13, s14⟩ := hS; go_simp; try with_reducible rfl) ?_)
      try simp only [Act.put, List.getElem_toArray, List.getElem_cons_succ, List.getElem_cons_zero, List.setIfInBounds_toArray, List.set_cons_zero, List.set_cons_succ]
      first | (refine Wk.skip (m := 6) (k := 12) rfl (by rfl) ?_) | (refine Wk.step (m := 6) (k := 12) (v := _) rfl (by rfl) (fun wv hS => by obtain ⟨s0, s1, s2, s3, s4, s5, s6, s7, s8, s9, s10, s11, s12, s13, s14⟩ := hS; go_simp; try with_reducible rfl) ?_)
      try simp only [Act.put, List.getElem_toArray, List.getElem_cons_succ, List.getElem_cons_zero, List.setIfInBounds_toArray, List.set_cons_zero, List.set_cons_succ]
      first | (refine Wk.skip (m := 5) (k := 13) rfl (by rfl) ?_) | (refine Wk.step (m := 5) (k := 13) (v := _) rfl (by rfl) (fun wv hS => by obtain ⟨s0, s1, s2, s3, s4, s5, s6, s7, s8, s9, s10, s11, s12, s13, s14⟩ := hS; go_simp; try with_reducible rfl) ?_)
      try simp only [Act.put, List.getElem_toArray, List.getElem_cons_succ, List.getElem_cons_zero, List.setIfInBounds_toArray, List.set_cons_zero, List.set_cons_succ]
      first | (refine Wk.skip (m := 4) (k := 14) rfl (by rfl) ?_) | (refine Wk.step (m := 4) (k := 14) (v := _) rfl (by rfl) (fun wv hS => by obtain ⟨s0, s1, s2, s3, s4, s5, s6, s7, s8, s9, s10, s11, s12, s13, s14⟩ := hS; go_simp; try with_reducible rfl) ?_)
      try simp only [Act.put, List.getElem_toArray, List.getElem_cons_succ, List.getElem_cons_zero, List.setIfInBounds_toArray, List.set_cons_zero, List.set_cons_succ]
      first | (refine Wk.skip (m := 3) (k := 15) rfl (by rfl) ?_) | (refine Wk.step (m := 3) (k := 15) (v := _) rfl (by rfl) (fun wv hS => by obtain ⟨s0, s1, s2, s3, s4, s5, s6, s7, s8, s9, s10, s11, s12, s13, s14⟩ := hS; go_simp; try with_reducible rfl) ?_)
      try simp only [Act.put, List.getElem_toArray, List.getElem_cons_succ, List.getElem_cons_zero, List.setIfInBounds_toArray, List.set_cons_zero, List.set_cons_succ]
      first | (refine Wk.skip (m := 2) (k := 16) rfl (by rfl) ?_) | (refine Wk.step (m := 2) (k := 16) (v := _) rfl (by rfl) (fun wv hS => by obtain ⟨s0, s1, s2, s3, s4, s5, s6, s7, s8, s9, s10, s11, s12, s13, s14⟩ := hS; go_simp; try with_reducible rfl) ?_)
      try simp only [Act.put, List.getElem_toArray, List.getElem_cons_succ, List.getElem_cons_zero, List.setIfInBounds_toArray, List.set_cons_zero, List.set_cons_succ]
      first | (refine Wk.skip (m := 1) (k := 17) rfl (by rfl) ?_) | (refine Wk.step (m := 1) (k := 17) (v := _) rfl (by rfl) (fun wv hS => by obtain ⟨s0, s1, s2, s3, s4, s5, s6, s7, s8, s9, s10, s11, s12, s13, s14⟩ := hS; go_simp; try with_reducible rfl) ?_)
      try simp only [Act.put, List.getElem_toArray, List.getElem_cons_succ, List.getElem_cons_zero, List.setIfInBounds_toArray, List.set_cons_zero, List.set_cons_succ]
      first | (refine Wk.skip (m := 0) (k := 18) rfl (by rfl) ?_) | (refine Wk.step (m := 0) (k := 18) (v := _) rfl (by rfl) (fun wv hS => by obtain ⟨s0, s1, s2, s3, s4, s5, s6, s7, s8, s9, s10, s11, s12, s13, s14⟩ := hS; go_simp; try with_reducible rfl) ?_)
      try simp only [Act.put, List.getElem_toArray, List.getElem_cons_succ, List.getElem_cons_zero, List.setIfInBounds_toArray, List.set_cons_zero, List.set_cons_succ]
      refine Wk.done fun wE hE => ?_
      clear u0 u1 u2 u3 u4 u5 u6 u7 u8 u9 q0 q1 q2 q3
      obtain ⟨mE, u0, u1, u2, u3, u4, u5, u6, u7, u8, u9, q0, q1, q2, q3⟩ := hE
      go_wp2_with fail
      rw [HN.out]
      exact bodyPost_end (results_none rfl _ _ _) rfl ⟨⟨_, rfl⟩, a, n, c, gs, q0, q1, q2, q3, own_keptR hO mE, hg, hR, (hK.mk mE hhib (.inr (.inr (Nat.le_refl _)))).wide (Nat.le_refl _) (Nat.le_trans hhib mE.size), (fun b hb _ => (M0.trans mE).block b (by omega) (.inr (Nat.zero_le _))), (mW.trans (M0.trans mE))⟩
    · by_cases e20 : x2 < 20
      · have g20 : decide (x2 < 20) = true := decide_eq_true e20
        have HN := Lib.hid (show hdB x0 x1 x2 p0 p1 p2 p8 = true by rw [HDB.out, g20, e8]; rfl)
        go_enter Try.func64, Try.ntmps64
        go_wp2_with fail
        generalize (w.alloc (Obj.cells #[Value.int .i64 p0, Value.int .i64 p1, Value.int .i64 p2, Value.slice a3 n3 c3, Value.int .i64 p4, Value.int .i64 p5, Value.int .i64 p6, Value.int .i64 p7, Value.int .i64 p8, Value.slice (some ad9) n9 c9] 66)) = wb at *
        refine wp_region_wk (fun w' => Mk0 wb w' ∧ w'.cell? ⟨w.heap.size, 0, none⟩ = some (.int .i64 p0) ∧ w'.cell? ⟨w.heap.size, 1, none⟩ = some (.int .i64 p1) ∧ w'.cell? ⟨w.heap.size, 2, none⟩ = some (.int .i64 p2) ∧ w'.cell? ⟨w.heap.size, 3, none⟩ = some (.slice a3 n3 c3) ∧ w'.cell? ⟨w.heap.size, 4, none⟩ = some (.int .i64 p4) ∧ w'.cell? ⟨w.heap.size, 5, none⟩ = some (.int .i64 p5) ∧ w'.cell? ⟨w.heap.size, 6, none⟩ = some (.int .i64 p6) ∧ w'.cell? ⟨w.heap.size, 7, none⟩ = some (.int .i64 p7) ∧ w'.cell? ⟨w.heap.size, 8, none⟩ = some (.int .i64 p8) ∧ w'.cell? ⟨w.heap.size, 9, none⟩ = some (.slice (some ad9) n9 c9) ∧ w'.cell? ⟨q, 0, none⟩ = some (.int .i64 x0) ∧ w'.cell? ⟨q, 1, none⟩ = some (.int .i64 x1) ∧ w'.cell? ⟨q, 2, none⟩ = some (.int .i64 x2) ∧ w'.cell? ⟨q, 3, none⟩ = some (.slice a n c)) (by kernel_rfl) (by kernel_rfl) (⟨Mk.drew1 _, u0, u1, u2, u3, u4, u5, u6, u7, u8, u9, q0, q1, q2, q3⟩) ?_
        change Wk _ _ _ _ 19 0 _
        first | (refine Wk.skip (m := 18) (k := 0) rfl (by rfl) ?_) | (refine Wk.step (m := 18) (k := 0) (v := _) rfl (by rfl) (fun wv hS => by obtain ⟨s0, s1, s2, s3, s4, s5, s6, s7, s8, s9, s10, s11, s12, s13, s14⟩ := hS; go_simp; try with_reducible rfl) ?_)
        try simp only [Act.put, List.getElem_toArray, List.getElem_cons_zero, List.setIfInBounds_toArray, List.set_cons_zero, List.set_cons_succ]
        first | (refine Wk.skip (m := 17) (k := 1) rfl (by rfl) ?_) | (refine Wk.step (m := 17) (k := 1) (v := _) rfl (by rfl) (fun wv hS => by obtain ⟨s0, s1, s2, s3, s4, s5, s6, s7, s8, s9, s10, s11, s12, s13, s14⟩ := hS; go_simp; try with_reducible rfl) ?_)
        try simp only [Act.put, List.getElem_toArray, List.getElem_cons_succ, List.getElem_cons_zero, List.setIfInBounds_toArray, List.set_cons_zero, List.set_cons_succ]
        refine Wk.call (m := 16) (k := 2) (v := .bool true) _ _ rfl (by rfl) (fun wv hS => by obtain ⟨s0, s1, s2, s3, s4, s5, s6, s7, s8, s9, s10, s11, s12, s13, s14⟩ := hS; go_simp; first | done | exact ⟨rfl, rfl⟩ | with_reducible rfl) (fun wv hS => ?_) ?_; · obtain ⟨s0, s1, s2, s3, s4, s5, s6, s7, s8, s9, s10, s11, s12, s13, s14⟩ := hS; refine (implFor x0 x1 q p0 p1 p2 p4 p5 p6 p7 p8 a3 n3 c3 ad9 n9 c9 wv (Nat.lt_of_lt_of_le hqb s0.size) s11 s12).mono ?_; rintro e w' ⟨he, mm⟩; exact ⟨by rw [he, ← hFB.out], ⟨s0.trans mm, mm.cellAt s1, mm.cellAt s2, mm.cellAt s3, mm.cellAt s4, mm.cellAt s5, mm.cellAt s6, mm.cellAt s7, mm.cellAt s8, mm.cellAt s9, mm.cellAt s10, mm.cellAt s11, mm.cellAt s12, mm.cellAt s13, mm.cellAt s14⟩⟩
        try simp only [Act.put, List.getElem_toArray, List.getElem_cons_succ, List.getElem_cons_zero, List.setIfInBounds_toArray, List.set_cons_zero, List.set_cons_succ]
        first | (refine Wk.skip (m := 15) (k := 3) rfl (by rfl) ?_) | (refine Wk.step (m := 15) (k := 3) (v := _) rfl (by rfl) (fun wv hS => by obtain ⟨s0, s1, s2, s3, s4, s5, s6, s7, s8, s9, s10, s11, s12, s13, s14⟩ := hS; go_simp; try with_reducible rfl) ?_)
        try simp only [Act.put, List.getElem_toArray, List.getElem_cons_succ, List.getElem_cons_zero, List.setIfInBounds_toArray, List.set_cons_zero, List.set_cons_succ]
        first | (refine Wk.skip (m := 14) (k := 4) rfl (by rfl) ?_) | (refine Wk.step (m := 14) (k := 4) (v := _) rfl (by rfl) (fun wv hS => by obtain ⟨s0, s1, s2, s3, s4, s5, s6, s7, s8, s9, s10, s11, s12, s13, s14⟩ := hS; go_simp; try with_reducible rfl) ?_)
        try simp only [Act.put, List.getElem_toArray, List.getElem_cons_succ, List.getElem_cons_zero, List.setIfInBounds_toArray, List.set_cons_zero, List.set_cons_succ]
        first | (refine Wk.skip (m := 13) (k := 5) rfl (by rfl) ?_) | (refine Wk.step (m := 13) (k := 5) (v := _) rfl (by rfl) (fun wv hS => by obtain ⟨s0, s1, s2, s3, s4, s5, s6, s7, s8, s9, s10, s11, s12, s13, s14⟩ := hS; go_simp; try with_reducible rfl) ?_)
        try simp only [Act.put, List.getElem_toArray, List.getElem_cons_succ, List.getElem_cons_zero, List.setIfInBounds_toArray, List.set_cons_zero, List.set_cons_succ]
        first | (refine Wk.skip (m := 12) (k := 6) rfl (by rfl) ?_) | (refine Wk.step (m := 12) (k := 6) (v := _) rfl (by rfl) (fun wv hS => by obtain ⟨s0, s1, s2, s3, s4, s5, s6, s7, s8, s9, s10, s11, s12, s13, s14⟩ := hS; go_simp; try with_reducible rfl) ?_)
        try simp only [Act.put, List.getElem_toArray, List.getElem_cons_succ, List.getElem_cons_zero, List.setIfInBounds_toArray, List.set_cons_zero, List.set_cons_succ]
        first | (refine Wk.skip (m := 11) (k := 7) rfl (by rfl) ?_) | (refine Wk.step (m := 11) (k := 7) (v := _) rfl (by rfl) (fun wv hS => by obtain ⟨s0, s1, s2, s3, s4, s5, s6, s7, s8, s9, s10, s11, s12, s13, s14⟩ := hS; go_simp; try with_reducible rfl) ?_)
        try simp only [Act.put, List.getElem_toArray, List.getElem_cons_succ, List.getElem_cons_zero, List.setIfInBounds_toArray, List.set_cons_zero, List.set_cons_succ]
        first | (refine Wk.skip (m := 10) (k := 8) rfl (by rfl) ?_) | (refine Wk.step (m := 10) (k := 8) (v := _) rfl (by rfl) (fun wv hS => by obtain ⟨s0, s1, s2, s3, s4, s5, s6, s7, s8, s9, s10, s11, s12, s13, s14⟩ := hS; go_simp; try with_reducible rfl) ?_)
        try simp only [Act.put, List.getElem_toArray, List.getElem_cons_succ, List.getElem_cons_zero, List.setIfInBounds_toArray, List.set_cons_zero, List.set_cons_succ]
        first | (refine Wk.skip (m := 9) (k := 9) rfl (by rfl) ?_) | (refine Wk.step (m := 9) (k := 9) (v := _) rfl (by rfl) (fun wv hS => by obtain ⟨s0, s1, s2, s3, s4, s5, s6, s7, s8, s9, s10, s11, s12, s13, s14⟩ := hS; go_simp; try with_reducible rfl) ?_)
        try simp only [Act.put, List.getElem_toArray, List.getElem_cons_succ, List.getElem_cons_zero, List.setIfInBounds_toArray, List.set_cons_zero, List.set_cons_succ]
        first | (refine Wk.skip (m := 8) (k := 10) rfl (by rfl) ?_) | (refine Wk.step (m := 8) (k := 10) (v := _) rfl (by rfl) (fun wv hS => by obtain ⟨s0, s1, s2, s3, s4, s5, s6, s7, s8, s9, s10, s11, s12, s13, s14⟩ := hS; go_simp; try with_reducible rfl) ?_)
        try simp only [Act.put, List.getElem_toArray, List.getElem_cons_succ, List.getElem_cons_zero, List.setIfInBounds_toArray, List.set_cons_zero, List.set_cons_succ]
        first | (refine Wk.skip (m := 7) (k := 11) rfl (by rfl) ?_) | (refine Wk.step (m := 7) (k := 11) (v := _) rfl (by rfl) (fun wv hS => by obtain ⟨s0, s1, s2, s3, s4, s5, s6, s7, s8, s9, s10, s11, s12, s13, s14⟩ := hS; go_simp; try with_reducible rfl) ?_)
        try simp only [Act.put, List.getElem_toArray, List.getElem_cons_succ, List.getElem_cons_zero, List.setIfInBounds_toArray, List.set_cons_zero, List.set_cons_succ]
        first | (refine Wk.skip (m := 6) (k := 12) rfl (by rfl) ?_) | (refine Wk.step (m := 6) (k := 12) (v := _) rfl (by rfl) (fun wv hS => by obtain ⟨s0, s1, s2, s3, s4, s5, s6, s7, s8, s9, s10, s11, s12, s13, s14⟩ := hS; go_simp; try with_reducible rfl) ?_)
        try simp only [Act.put, List.getElem_toArray, List.getElem_cons_succ, List.getElem_cons_zero, List.setIfInBounds_toArray, List.set_cons_zero, List.set_cons_succ]
        first | (refine Wk.skip (m := 5) (k := 13) rfl (by rfl) ?_) | (refine Wk.step (m := 5) (k := 13) (v := _) rfl (by rfl) (fun wv hS => by obtain ⟨s0, s1, s2, s3, s4, s5, s6, s7, s8, s9, s10, s11, s12, s13, s14⟩ := hS; go_simp; try with_reducible rfl) ?_)
        try simp only [Act.put, List.getElem_toArray, List.getElem_cons_succ, List.getElem_cons_zero, List.setIfInBounds_toArray, List.set_cons_zero, List.set_cons_succ]
        first | (refine Wk.skip (m := 4) (k := 14) rfl (by rfl) ?_) | (refine Wk.step (m := 4) (k := 14) (v := _) rfl (by rfl) (fun wv hS => by obtain ⟨s0, s1, s2, s3, s4, s5, s6, s7, s8, s9, s10, s11, s12, s13, s14⟩ := hS; go_simp; try with_reducible rfl) ?_)
        try simp only [Act.put, List.getElem_toArray, List.getElem_cons_succ, List.getElem_cons_zero, List.setIfInBounds_toArray, List.set_cons_zero, List.set_cons_succ]
        first | (refine Wk.skip (m := 3) (k := 15) rfl (by rfl) ?_) | (refine Wk.step (m := 3) (k := 15) (v := _) rfl (by rfl) (fun wv hS => by obtain ⟨s0, s1, s2, s3, s4, s5, s6, s7, s8, s9, s10, s11, s12, s13, s14⟩ := hS; go_simp; try with_reducible rfl) ?_)
        try simp only [Act.put, List.getElem_toArray, List.getElem_cons_succ, List.getElem_cons_zero, List.setIfInBounds_toArray, List.set_cons_zero, List.set_cons_succ]
        first | (refine Wk.skip (m := 2) (k := 16) rfl (by rfl) ?_) | (refine Wk.step (m := 2) (k := 16) (v := _) rfl (by rfl) (fun wv hS => by obtain ⟨s0, s1, s2, s3, s4, s5, s6, s7, s8, s9, s10, s11, s12, s13, s14⟩ := hS; go_simp; try with_reducible rfl) ?_)
        try simp only [Act.put, List.getElem_toArray, List.getElem_cons_succ, List.getElem_cons_zero, List.setIfInBounds_toArray, List.set_cons_zero, List.set_cons_succ]
        first | (refine Wk.skip (m := 1) (k := 17) rfl (by rfl) ?_) | (refine Wk.step (m := 1) (k := 17) (v := _) rfl (by rfl) (fun wv hS => by obtain ⟨s0, s1, s2, s3, s4, s5, s6, s7, s8, s9, s10, s11, s12, s13, s14⟩ := hS; go_simp; try with_reducible rfl) ?_)
        try simp only [Act.put, List.getElem_toArray, List.getElem_cons_succ, List.getElem_cons_zero, List.setIfInBounds_toArray, List.set_cons_zero, List.set_cons_succ]
        first | (refine Wk.skip (m := 0) (k := 18) rfl (by rfl) ?_) | (refine Wk.step (m := 0) (k := 18) (v := _) rfl (by rfl) (fun wv hS => by obtain ⟨s0, s1, s2, s3, s4, s5, s6, s7, s8, s9, s10, s11, s12, s13, s14⟩ := hS; go_simp; try with_reducible rfl) ?_)
        try simp only [Act.put, List.getElem_toArray, List.getElem_cons_succ, List.getElem_cons_zero, List.setIfInBounds_toArray, List.set_cons_zero, List.set_cons_succ]
        refine Wk.done fun wE hE => ?_
        clear u0 u1 u2 u3 u4 u5 u6 u7 u8 u9 q0 q1 q2 q3
        obtain ⟨mE, u0, u1, u2, u3, u4, u5, u6, u7, u8, u9, q0, q1, q2, q3⟩ := hE
        go_wp2_with fail
        have hO1 := own_keptR hO mE
        have hK1 := Lib.hid (hK.mk mE hhib (.inr (.inr (Nat.le_refl _))))
        have hp1 := hp9.mk mE hB9b (.inr (Nat.le_refl _))
        have hB91 := Nat.le_trans hB9b mE.size
        have hq1 := Nat.lt_of_lt_of_le hqb mE.size
        have fq1 : ∀ j, wE.frozen? ⟨q, j, none⟩ = false := fun j => (mE.frozen (b := q) (o := j) hqb (.inr (Nat.zero_le _))).trans (fq j)
        have kp1 : ∀ b, b < LO → wE.heap[b]? = w.heap[b]? := fun b hb => (M0.trans mE).block b (by omega) (.inr (Nat.zero_le _))
        have M1 := mW.trans (M0.trans mE)
        have hhi1 := Nat.le_trans hhib mE.size
        clear hO hK hp9 fq mE
        generalize wE = w1 at *
        refine wp_region_fh (fun (g : Bxs) w' => (Mk0 w1 w' ∧ w'.cell? ⟨w.heap.size, 0, none⟩ = some (.int .i64 p0) ∧ w'.cell? ⟨w.heap.size, 1, none⟩ = some (.int .i64 p1) ∧ w'.cell? ⟨w.heap.size, 2, none⟩ = some (.int .i64 p2) ∧ w'.cell? ⟨w.heap.size, 3, none⟩ = some (.slice a3 n3 c3) ∧ w'.cell? ⟨w.heap.size, 4, none⟩ = some (.int .i64 p4) ∧ w'.cell? ⟨w.heap.size, 5, none⟩ = some (.int .i64 p5) ∧ w'.cell? ⟨w.heap.size, 6, none⟩ = some (.int .i64 p6) ∧ w'.cell? ⟨w.heap.size, 7, none⟩ = some (.int .i64 p7) ∧ w'.cell? ⟨w.heap.size, 8, none⟩ = some (.int .i64 p8) ∧ w'.cell? ⟨w.heap.size, 9, none⟩ = some (.slice (some ad9) n9 c9) ∧ w'.cell? ⟨q, 0, none⟩ = some (.int .i64 x0) ∧ w'.cell? ⟨q, 1, none⟩ = some (.int .i64 x1) ∧ w'.cell? ⟨q, 2, none⟩ = some (.int .i64 x2) ∧ w'.cell? ⟨q, 3, none⟩ = some (.slice a n c)) ∧ BxS w1.heap.size g w') (fhF [fun g x wv => (x 0) = .pointer (some ⟨q, 0, none⟩), fun g x wv => (x 1) = .pointer (some ⟨q, 0, none⟩), fun g x wv => (x 2) = .pointer (some ⟨q, 0, none⟩), fun g x wv => (x 3) = .pointer (some ⟨q, 3, none⟩), fun g x wv => (x 4) = .slice a n c, fun g x wv => (x 5) = .pointer (some ⟨w.heap.size, 9, none⟩), fun g x wv => (x 6) = .slice (some ad9) n9 c9, fun g x wv => (x 7) = .agg #[.slice (some ad9) n9 c9], fun g x wv => ∃ (A : Option Addr) (N C lo hi : Nat), (x 8) = .agg #[.slice A N C] ∧ OwnByte wv lo hi A N z9 ∧ ((A = none → C = 0) ∧ (N ≤ C ∧ C ≤ 9223372036854775807)) ∧ w1.heap.size ≤ lo ∧ lo ≤ hi ∧ hi ≤ wv.heap.size, fun g x wv => ∃ (A : Option Addr) (N C lo hi NB : Nat), (x 9) = .slice (some ⟨NB, 0, none⟩) 1 1 ∧ HasR 1 HMessage.cell wv wv.heap.size (some ⟨NB, 0, none⟩) 1 [(⟨A, N, C⟩ : HMessage)] ∧ OwnByte wv lo hi A N z9 ∧ ((A = none → C = 0) ∧ (N ≤ C ∧ C ≤ 9223372036854775807)) ∧ w1.heap.size ≤ lo ∧ lo ≤ hi ∧ hi ≤ wv.heap.size]) BxX (fun _ _ => False) (spL [[0], [1], [2], [3], [4], [5], [6], [7], [8], [9]]) 0 10 (by kernel_rfl) (by kernel_rfl) (by kernel_rfl) (by decide) (by decide) (by kernel_rfl) (fun _ => by kernel_rfl) (fhM_mono ⟨fun g g' v w w' h x => h, fun g g' v w w' h x => h, fun g g' v w w' h x => h, fun g g' v w w' h x => h, fun g g' v w w' h x => h, fun g g' v w w' h x => h, fun g g' v w w' h x => h, fun g g' v w w' h x => h, fun g g' v w w' h x => (by obtain ⟨A, N, C, lo, hi, e, o, cc, d1, d2, d3⟩ := h; exact ⟨A, N, C, lo, hi, e, o.mk x.far d3 (.inr (.inr (Nat.le_refl _))), cc, d1, d2, Nat.le_trans d3 x.far.size⟩), fun g g' v w w' h x => (by obtain ⟨A, N, C, lo, hi, NB, e, hr, o, cc, d1, d2, d3⟩ := h; exact ⟨A, N, C, lo, hi, NB, e, (hr.mk x.far (Nat.le_refl _) (.inr (Nat.le_refl _))).mono x.far.size, o.mk x.far d3 (.inr (.inr (Nat.le_refl _))), cc, d1, d2, Nat.le_trans d3 x.far.size⟩), trivial⟩) ⟨⟨Mk.drew1 _, u0, u1, u2, u3, u4, u5, u6, u7, u8, u9, q0, q1, q2, q3⟩, BxS.none_ _ _⟩ ?_
        change WkH _ _ _ _ _ _ _ 0 10 10 0 _
        refine WkH.pure (m := 9) (k := 0) (fun _ _ => BxX.same (Mk.refl _ _ _)) rfl rfl (of_decide_eq_true (by rfl)) rfl (fun g wv hS hF => ?_) (fun v0 => ?_)
        · obtain ⟨⟨s0, s1, s2, s3, s4, s5, s6, s7, s8, s9, s10, s11, s12, s13, s14⟩, hB2⟩ := hS
          exact ⟨.pointer (some ⟨q, 0, none⟩), (fun w' => (by go_simp; try with_reducible rfl)), rfl⟩
        try simp only [Act.put, List.getElem_toArray, List.getElem_cons_zero, List.setIfInBounds_toArray, List.set_cons_zero, List.set_cons_succ]
        refine WkH.value (m := 8) (k := 1) (by decide) rfl rfl (of_decide_eq_true (by rfl)) rfl (fun g wv hS hF => ?_) (fun v1 => ?_)
        · obtain ⟨⟨s0, s1, s2, s3, s4, s5, s6, s7, s8, s9, s10, s11, s12, s13, s14⟩, hB2⟩ := hS
          exact ⟨.pointer (some ⟨q, 0, none⟩), wv, g, (by go_simp; try with_reducible rfl), ⟨⟨s0, s1, s2, s3, s4, s5, s6, s7, s8, s9, s10, s11, s12, s13, s14⟩, hB2⟩, BxX.same (Mk.refl _ _ _), rfl⟩
        try simp only [Act.put, List.getElem_toArray, List.getElem_cons_succ, List.getElem_cons_zero, List.setIfInBounds_toArray, List.set_cons_zero, List.set_cons_succ]
        refine WkH.value (m := 7) (k := 2) (by decide) rfl rfl (of_decide_eq_true (by rfl)) rfl (fun g wv hS hF => ?_) (fun v2 => ?_)
        · obtain ⟨⟨s0, s1, s2, s3, s4, s5, s6, s7, s8, s9, s10, s11, s12, s13, s14⟩, hB2⟩ := hS
          have f1 : v1 = .pointer (some ⟨q, 0, none⟩) := hF 1 (by rfl)
          obtain rfl := f1
          exact ⟨.pointer (some ⟨q, 0, none⟩), wv, g, (by go_simp; try with_reducible rfl), ⟨⟨s0, s1, s2, s3, s4, s5, s6, s7, s8, s9, s10, s11, s12, s13, s14⟩, hB2⟩, BxX.same (Mk.refl _ _ _), rfl⟩
        try simp only [Act.put, List.getElem_toArray, List.getElem_cons_succ, List.getElem_cons_zero, List.setIfInBounds_toArray, List.set_cons_zero, List.set_cons_succ]
        refine WkH.value (m := 6) (k := 3) (by decide) rfl rfl (of_decide_eq_true (by rfl)) rfl (fun g wv hS hF => ?_) (fun v3 => ?_)
        · obtain ⟨⟨s0, s1, s2, s3, s4, s5, s6, s7, s8, s9, s10, s11, s12, s13, s14⟩, hB2⟩ := hS
          have f2 : v2 = .pointer (some ⟨q, 0, none⟩) := hF 2 (by rfl)
          obtain rfl := f2
          exact ⟨.pointer (some ⟨q, 3, none⟩), wv, g, (by go_simp; try with_reducible rfl), ⟨⟨s0, s1, s2, s3, s4, s5, s6, s7, s8, s9, s10, s11, s12, s13, s14⟩, hB2⟩, BxX.same (Mk.refl _ _ _), rfl⟩
        try simp only [Act.put, List.getElem_toArray, List.getElem_cons_succ, List.getElem_cons_zero, List.setIfInBounds_toArray, List.set_cons_zero, List.set_cons_succ]
        refine WkH.value (m := 5) (k := 4) (by decide) rfl rfl (of_decide_eq_true (by rfl)) rfl (fun g wv hS hF => ?_) (fun v4 => ?_)
        · obtain ⟨⟨s0, s1, s2, s3, s4, s5, s6, s7, s8, s9, s10, s11, s12, s13, s14⟩, hB2⟩ := hS
          have f3 : v3 = .pointer (some ⟨q, 3, none⟩) := hF 3 (by rfl)
          obtain rfl := f3
          exact ⟨.slice a n c, wv, g, (by go_simp; try with_reducible rfl), ⟨⟨s0, s1, s2, s3, s4, s5, s6, s7, s8, s9, s10, s11, s12, s13, s14⟩, hB2⟩, BxX.same (Mk.refl _ _ _), rfl⟩
        try simp only [Act.put, List.getElem_toArray, List.getElem_cons_succ, List.getElem_cons_zero, List.setIfInBounds_toArray, List.set_cons_zero, List.set_cons_succ]
        refine WkH.value (m := 4) (k := 5) (by decide) rfl rfl (of_decide_eq_true (by rfl)) rfl (fun g wv hS hF => ?_) (fun v5 => ?_)
        · obtain ⟨⟨s0, s1, s2, s3, s4, s5, s6, s7, s8, s9, s10, s11, s12, s13, s14⟩, hB2⟩ := hS
          exact ⟨.pointer (some ⟨w.heap.size, 9, none⟩), wv, g, (by go_simp; try with_reducible rfl), ⟨⟨s0, s1, s2, s3, s4, s5, s6, s7, s8, s9, s10, s11, s12, s13, s14⟩, hB2⟩, BxX.same (Mk.refl _ _ _), rfl⟩
        try simp only [Act.put, List.getElem_toArray, List.getElem_cons_succ, List.getElem_cons_zero, List.setIfInBounds_toArray, List.set_cons_zero, List.set_cons_succ]
        refine WkH.value (m := 3) (k := 6) (by decide) rfl rfl (of_decide_eq_true (by rfl)) rfl (fun g wv hS hF => ?_) (fun v6 => ?_)
        · obtain ⟨⟨s0, s1, s2, s3, s4, s5, s6, s7, s8, s9, s10, s11, s12, s13, s14⟩, hB2⟩ := hS
          have f5 : v5 = .pointer (some ⟨w.heap.size, 9, none⟩) := hF 5 (by rfl)
          obtain rfl := f5
          exact ⟨.slice (some ad9) n9 c9, wv, g, (by go_simp; try with_reducible rfl), ⟨⟨s0, s1, s2, s3, s4, s5, s6, s7, s8, s9, s10, s11, s12, s13, s14⟩, hB2⟩, BxX.same (Mk.refl _ _ _), rfl⟩
        try simp only [Act.put, List.getElem_toArray, List.getElem_cons_succ, List.getElem_cons_zero, List.setIfInBounds_toArray, List.set_cons_zero, List.set_cons_succ]
        refine WkH.value (m := 2) (k := 7) (by decide) rfl rfl (of_decide_eq_true (by rfl)) rfl (fun g wv hS hF => ?_) (fun v7 => ?_)
        · obtain ⟨⟨s0, s1, s2, s3, s4, s5, s6, s7, s8, s9, s10, s11, s12, s13, s14⟩, hB2⟩ := hS
          have f6 : v6 = .slice (some ad9) n9 c9 := hF 6 (by rfl)
          obtain rfl := f6
          exact ⟨.agg #[.slice (some ad9) n9 c9], wv, g, (by go_simp; try with_reducible rfl), ⟨⟨s0, s1, s2, s3, s4, s5, s6, s7, s8, s9, s10, s11, s12, s13, s14⟩, hB2⟩, BxX.same (Mk.refl _ _ _), rfl⟩
        try simp only [Act.put, List.getElem_toArray, List.getElem_cons_succ, List.getElem_cons_zero, List.setIfInBounds_toArray, List.set_cons_zero, List.set_cons_succ]
        refine WkH.call (m := 1) (k := 8) (by decide) rfl rfl (of_decide_eq_true (by rfl)) rfl (fun g wv hS hF => ?_) (fun v8 => ?_)
        · obtain ⟨⟨s0, s1, s2, s3, s4, s5, s6, s7, s8, s9, s10, s11, s12, s13, s14⟩, hB2⟩ := hS
          have f7 : v7 = .agg #[.slice (some ad9) n9 c9] := hF 7 (by rfl)
          obtain rfl := f7
          refine ⟨_, _, (by go_simp; first | done | exact ⟨rfl, rfl⟩ | with_reducible rfl), ?_⟩
          refine ((implCloneMsg (some ad9) n9 c9 B9 z9 wv (hp1.mk s0 hB91 (.inr (Nat.le_refl _))) (Nat.le_trans hB91 s0.size) hn9)).mono ?_
          rintro e w' ⟨A, N, C, rfl, cc, o, mm⟩
          exact ⟨_, g, rfl, ⟨⟨s0.trans mm, mm.cellAt s1, mm.cellAt s2, mm.cellAt s3, mm.cellAt s4, mm.cellAt s5, mm.cellAt s6, mm.cellAt s7, mm.cellAt s8, mm.cellAt s9, mm.cellAt s10, mm.cellAt s11, mm.cellAt s12, mm.cellAt s13, mm.cellAt s14⟩, hB2.mk0 mm⟩, BxX.same mm, ⟨A, N, C, wv.heap.size, w'.heap.size, rfl, o, cc, s0.size, mm.size, Nat.le_refl _⟩⟩
        try simp only [Act.put, List.getElem_toArray, List.getElem_cons_succ, List.getElem_cons_zero, List.setIfInBounds_toArray, List.set_cons_zero, List.set_cons_succ]
        refine WkH.value (m := 0) (k := 9) (by decide) rfl rfl (of_decide_eq_true (by rfl)) rfl (fun g wv hS hF => ?_) (fun v9 => ?_)
        · obtain ⟨⟨s0, s1, s2, s3, s4, s5, s6, s7, s8, s9, s10, s11, s12, s13, s14⟩, hB2⟩ := hS
          have f8 : ∃ (A : Option Addr) (N C lo hi : Nat), v8 = .agg #[.slice A N C] ∧ OwnByte wv lo hi A N z9 ∧ ((A = none → C = 0) ∧ (N ≤ C ∧ C ≤ 9223372036854775807)) ∧ w1.heap.size ≤ lo ∧ lo ≤ hi ∧ hi ≤ wv.heap.size := hF 8 (by rfl)
          obtain ⟨A, N, C, lo, hi, rfl, o, cc, d1, d2, d3⟩ := f8
          have mm := Mk.alloc wv (Obj.cells #[.slice A N C] 103)
          exact ⟨.slice (some ⟨wv.heap.size, 0, none⟩) 1 1, (wv.alloc (Obj.cells #[.slice A N C] 103)), g, (by go_simp; try with_reducible rfl), ⟨⟨s0.trans mm, mm.cellAt s1, mm.cellAt s2, mm.cellAt s3, mm.cellAt s4, mm.cellAt s5, mm.cellAt s6, mm.cellAt s7, mm.cellAt s8, mm.cellAt s9, mm.cellAt s10, mm.cellAt s11, mm.cellAt s12, mm.cellAt s13, mm.cellAt s14⟩, hB2.mk0 mm⟩, BxX.same mm, ⟨A, N, C, lo, hi, wv.heap.size, rfl, hasR_new (cell := HMessage.cell) (nc := 1) (by decide) wv 103 (⟨A, N, C⟩ : HMessage) #[.slice A N C] (fun j hj => by match j, hj with | 0, _ => rfl), o.mk mm d3 (.inr (.inr (Nat.le_refl _))), cc, d1, d2, Nat.le_trans d3 mm.size⟩⟩
        try simp only [Act.put, List.getElem_toArray, List.getElem_cons_succ, List.getElem_cons_zero, List.setIfInBounds_toArray, List.set_cons_zero, List.set_cons_succ]
        refine WkH.done fun gE wE hE hF => ?_
        clear u0 u1 u2 u3 u4 u5 u6 u7 u8 u9 q0 q1 q2 q3
        obtain ⟨⟨mE, u0, u1, u2, u3, u4, u5, u6, u7, u8, u9, q0, q1, q2, q3⟩, hBE⟩ := hE
        change wpAny _ _ _ _ 4 _ _ _
        have f9 : ∃ (A : Option Addr) (N C lo hi NB : Nat), v9 = .slice (some ⟨NB, 0, none⟩) 1 1 ∧ HasR 1 HMessage.cell wE wE.heap.size (some ⟨NB, 0, none⟩) 1 [(⟨A, N, C⟩ : HMessage)] ∧ OwnByte wE lo hi A N z9 ∧ ((A = none → C = 0) ∧ (N ≤ C ∧ C ≤ 9223372036854775807)) ∧ w1.heap.size ≤ lo ∧ lo ≤ hi ∧ hi ≤ wE.heap.size := hF 9 (by decide)
        obtain ⟨A8, N8, C8, lo8, hi8, NB, rfl, hh, o8, cc8, d1, d2, d3⟩ := f9
        have f4 : v4 = .slice a n c := hF 4 (by decide)
        obtain rfl := f4
        have f0 : v0 = .pointer (some ⟨q, 0, none⟩) := hF 0 (by decide)
        obtain rfl := f0
        clear hF hBE
        have hO2 := own_keptR hO1 mE
        have hK2 := Lib.hid ((hK1.out.mk mE hhi1 (.inr (.inr (Nat.le_refl _)))).snoc (g := (⟨A8, N8, C8⟩ : HMessage)) (x := (⟨z9⟩ : TMessage)) hg hR (show LO ≤ lo8 by omega) d2 ⟨o8, cc8.2.1, cc8.2.2, cc8.1⟩ (show hi ≤ lo8 by omega) (fun b hb => .inl (by have := (hO1.lt b hb).2; omega)))
        have fq2 : ∀ j, wE.frozen? ⟨q, j, none⟩ = false := fun j => (mE.frozen (b := q) (o := j) hq1 (.inr (Nat.zero_le _))).trans (fq1 j)
        have hlo : LO ≤ wE.heap.size := by omega
        have hq2 := Nat.lt_of_lt_of_le hq1 mE.size
        have M2 := M1.trans mE
        refine wpAny_ready (rs := [10]) (by kernel_rfl) (by simp) ?_
        refine (AllReady.cons rfl (fun KK hKK => ?_) AllReady.nil)
        refine step_appR (nc := 1) (cell := HMessage.cell) (by decide) oneMessage (by rfl) (.tmp 27) (.tmp 32) 57 (by rfl) LO 103 i0 _ Try.underlying57 hi0 hz0 rfl hz1 (by rw [hz2]; decide) _ gs n (by rfl) hO2 (some ⟨NB, 0, none⟩) 1 1 [(⟨A8, N8, C8⟩ : HMessage)] (by rfl) (fun h => by cases h) hh (by omega) hlo ?_
        intro vv u4 hown4 hgr hat
        refine hKK _ _ ?_
        clear hKK KK
        try simp only [Act.put, List.getElem_toArray, List.getElem_cons_succ, List.getElem_cons_zero, List.setIfInBounds_toArray, List.set_cons_zero, List.set_cons_succ]
        have hne : ∀ g, (Value.slice a n c).ownBlock = some g → g ≠ q := fun g e => (by have := (hO2.lt g e).1; omega)
        have bq := World.block_lt_of_cell? _ _ q3
        replace q0 := grown_cell q0 hgr hne
        replace q1 := grown_cell q1 hgr hne
        replace q2 := grown_cell q2 hgr hne
        replace q3 := grown_cell q3 hgr hne
        replace fq2 := fun j => grown_frz (fq2 j) hq2 hgr hne
        have kp4 : ∀ b, b < LO → u4.heap[b]? = w.heap[b]? := fun b hb => (hgr.block b (by omega) (fun e => by have := (hO2.lt b e.symm).1; omega)).trans ((mE.block b (by omega) (.inr (Nat.zero_le _))).trans (kp1 b hb))
        have hK4 := hK2.out.grow hgr d3 hat
        have M4 := M2.appR hgr (fun g e => by have := (hO2.lt g e).1; omega)
        have z4 := hgr.size
        obtain ⟨A4, C4, rfl, hca4, hcb4⟩ := ownsRow_sliceR2 hown4
        clear hK2 hat hO2 hh hgr
        refine wpAny_ready (rs := [11]) (by kernel_rfl) (by simp) ?_
        refine (AllReady.cons rfl (fun K hK => ?_) AllReady.nil)
        go_simp
        refine hK _ _ ?_
        clear hK K
        try simp only [Act.put, List.getElem_toArray, List.getElem_cons_succ, List.getElem_cons_zero, List.setIfInBounds_toArray, List.set_cons_zero, List.set_cons_succ]
        refine wpAny_ready (rs := [12]) (by kernel_rfl) (by simp) ?_
        refine (AllReady.cons rfl (fun K hK => ?_) AllReady.nil)
        go_simp
        refine hK _ _ ?_
        clear hK K
        try simp only [Act.put, List.getElem_toArray, List.getElem_cons_succ, List.getElem_cons_zero, List.setIfInBounds_toArray, List.set_cons_zero, List.set_cons_succ]
        refine wpAny_ready (rs := [13]) (by kernel_rfl) (by simp) ?_
        refine (AllReady.cons rfl (fun K hK => ?_) AllReady.nil)
        go_simp
        refine hK _ _ ?_
        clear hK K
        try simp only [Act.put, List.getElem_toArray, List.getElem_cons_succ, List.getElem_cons_zero, List.setIfInBounds_toArray, List.set_cons_zero, List.set_cons_succ]
        refine wpAny_doneN (by kernel_rfl) ?_
        refine ‹∀ (a : Act) (w : World), _ → _› _ _ ?_
        replace q0 := cell_set q0 ⟨q, 3, none⟩ (.slice A4 (n + 1) C4) (.inr (by simp))
        replace q1 := cell_set q1 ⟨q, 3, none⟩ (.slice A4 (n + 1) C4) (.inr (by simp))
        replace q2 := cell_set q2 ⟨q, 3, none⟩ (.slice A4 (n + 1) C4) (.inr (by simp))
        replace q3 := World.cell?_setCell_same _ _ (.slice A4 (n + 1) C4) q3
        replace fq2 := fun j => frozen_set (fq2 j) ⟨q, 3, none⟩ (.slice A4 (n + 1) C4)
        have hO5 := own_put hown4 ⟨q, 3, none⟩ (.slice A4 (n + 1) C4) hLq
        have hK5 := hK4.set ⟨q, 3, none⟩ (.slice A4 (n + 1) C4) (.inr (.inl hLq))
        have M5 := M4.put ⟨q, 3, none⟩ (.slice A4 (n + 1) C4) hqw
        have kp5 : ∀ b, b < LO → b ≠ q → (u4.setCell ⟨q, 3, none⟩ (.slice A4 (n + 1) C4)).heap[b]? = w.heap[b]? := fun b hb hne => (Below.heap_setCell u4 ⟨q, 3, none⟩ (.slice A4 (n + 1) C4) b hne).trans (kp4 b hb)
        have z5 : (u4.setCell ⟨q, 3, none⟩ (.slice A4 (n + 1) C4)).heap.size = u4.heap.size := by simp only [World.size_set]
        generalize (u4.setCell ⟨q, 3, none⟩ (.slice A4 (n + 1) C4)) = u5 at *
        go_wp2_with fail
        rw [HN.out]
        have r0 := cell_set q0 ⟨q, 2, none⟩ (.int .i64 (x2 + 1)) (.inr (by simp))
        have r1 := cell_set q1 ⟨q, 2, none⟩ (.int .i64 (x2 + 1)) (.inr (by simp))
        have r2 := World.cell?_setCell_same _ _ (.int .i64 (x2 + 1)) q2
        have r3 := cell_set q3 ⟨q, 2, none⟩ (.int .i64 (x2 + 1)) (.inr (by simp))
        have rO := own_put hO5 ⟨q, 2, none⟩ (.int .i64 (x2 + 1)) hLq
        have rK := (hK5.set ⟨q, 2, none⟩ (.int .i64 (x2 + 1)) (.inr (.inl hLq))).wide (Nat.le_refl _) (show hi8 ≤ (u5.setCell ⟨q, 2, none⟩ (.int .i64 (x2 + 1))).heap.size by simp only [World.size_set]; omega)
        have rM := M5.put ⟨q, 2, none⟩ (.int .i64 (x2 + 1)) hqw
        have rKp : ∀ b, b < LO → b ≠ q → (u5.setCell ⟨q, 2, none⟩ (.int .i64 (x2 + 1))).heap[b]? = w.heap[b]? := fun b hb hne => (Below.heap_setCell u5 ⟨q, 2, none⟩ (.int .i64 (x2 + 1)) b hne).trans (kp5 b hb hne)
        have rg : (gs ++ [(⟨A8, N8, C8⟩ : HMessage)]).length = n + 1 := by rw [List.length_append, hg]; rfl
        have rR : (moreL true zs ⟨z9⟩).length = n + 1 := by unfold moreL; rw [List.length_append, hR]; rfl
        generalize (u5.setCell ⟨q, 2, none⟩ (.int .i64 (x2 + 1))) = u6 at *
        exact bodyPost_end (results_none rfl _ _ _) rfl (by first | exact ⟨⟨_, rfl⟩, A4, n + 1, C4, gs ++ [(⟨A8, N8, C8⟩ : HMessage)], r0, r1, r2, r3, rO, rg, rR, rK, rKp, rM⟩ | exact ⟨⟨_, rfl⟩, r0, r1, r2, A4, n + 1, C4, gs ++ [(⟨A8, N8, C8⟩ : HMessage)], r3, rO, rg, rR, rK, rKp, rM⟩ | exact ⟨⟨_, rfl⟩, r0, r1, r2, A4, n + 1, C4, r3, gs ++ [(⟨A8, N8, C8⟩ : HMessage)], rO, rg, rR, rK, rKp, rM⟩)
      · have g20 : decide (x2 < 20) = false := decide_eq_false e20
        have HN := Lib.hid (show hdB x0 x1 x2 p0 p1 p2 p8 = false by rw [HDB.out, g20, e8]; rfl)
        go_enter Try.func64, Try.ntmps64
        go_wp2_with fail
        generalize (w.alloc (Obj.cells #[Value.int .i64 p0, Value.int .i64 p1, Value.int .i64 p2, Value.slice a3 n3 c3, Value.int .i64 p4, Value.int .i64 p5, Value.int .i64 p6, Value.int .i64 p7, Value.int .i64 p8, Value.slice (some ad9) n9 c9] 66)) = wb at *
        refine wp_region_wk (fun w' => Mk0 wb w' ∧ w'.cell? ⟨w.heap.size, 0, none⟩ = some (.int .i64 p0) ∧ w'.cell? ⟨w.heap.size, 1, none⟩ = some (.int .i64 p1) ∧ w'.cell? ⟨w.heap.size, 2, none⟩ = some (.int .i64 p2) ∧ w'.cell? ⟨w.heap.size, 3, none⟩ = some (.slice a3 n3 c3) ∧ w'.cell? ⟨w.heap.size, 4, none⟩ = some (.int .i64 p4) ∧ w'.cell? ⟨w.heap.size, 5, none⟩ = some (.int .i64 p5) ∧ w'.cell? ⟨w.heap.size, 6, none⟩ = some (.int .i64 p6) ∧ w'.cell? ⟨w.heap.size, 7, none⟩ = some (.int .i64 p7) ∧ w'.cell? ⟨w.heap.size, 8, none⟩ = some (.int .i64 p8) ∧ w'.cell? ⟨w.heap.size, 9, none⟩ = some (.slice (some ad9) n9 c9) ∧ w'.cell? ⟨q, 0, none⟩ = some (.int .i64 x0) ∧ w'.cell? ⟨q, 1, none⟩ = some (.int .i64 x1) ∧ w'.cell? ⟨q, 2, none⟩ = some (.int .i64 x2) ∧ w'.cell? ⟨q, 3, none⟩ = some (.slice a n c)) (by kernel_rfl) (by kernel_rfl) (⟨Mk.drew1 _, u0, u1, u2, u3, u4, u5, u6, u7, u8, u9, q0, q1, q2, q3⟩) ?_
        change Wk _ _ _ _ 19 0 _
        first | (refine Wk.skip (m := 18) (k := 0) rfl (by rfl) ?_) | (refine Wk.step (m := 18) (k := 0) (v := _) rfl (by rfl) (fun wv hS => by obtain ⟨s0, s1, s2, s3, s4, s5, s6, s7, s8, s9, s10, s11, s12, s13, s14⟩ := hS; go_simp; try with_reducible rfl) ?_)
        try simp only [Act.put, List.getElem_toArray, List.getElem_cons_zero, List.setIfInBounds_toArray, List.set_cons_zero, List.set_cons_succ]
        first | (refine Wk.skip (m := 17) (k := 1) rfl (by rfl) ?_) | (refine Wk.step (m := 17) (k := 1) (v := _) rfl (by rfl) (fun wv hS => by obtain ⟨s0, s1, s2, s3, s4, s5, s6, s7, s8, s9, s10, s11, s12, s13, s14⟩ := hS; go_simp; try with_reducible rfl) ?_)
        try simp only [Act.put, List.getElem_toArray, List.getElem_cons_succ, List.getElem_cons_zero, List.setIfInBounds_toArray, List.set_cons_zero, List.set_cons_succ]
        refine Wk.call (m := 16) (k := 2) (v := .bool true) _ _ rfl (by rfl) (fun wv hS => by obtain ⟨s0, s1, s2, s3, s4, s5, s6, s7, s8, s9, s10, s11, s12, s13, s14⟩ := hS; go_simp; first | done | exact ⟨rfl, rfl⟩ | with_reducible rfl) (fun wv hS => ?_) ?_; · obtain ⟨s0, s1, s2, s3, s4, s5, s6, s7, s8, s9, s10, s11, s12, s13, s14⟩ := hS; refine (implFor x0 x1 q p0 p1 p2 p4 p5 p6 p7 p8 a3 n3 c3 ad9 n9 c9 wv (Nat.lt_of_lt_of_le hqb s0.size) s11 s12).mono ?_; rintro e w' ⟨he, mm⟩; exact ⟨by rw [he, ← hFB.out], ⟨s0.trans mm, mm.cellAt s1, mm.cellAt s2, mm.cellAt s3, mm.cellAt s4, mm.cellAt s5, mm.cellAt s6, mm.cellAt s7, mm.cellAt s8, mm.cellAt s9, mm.cellAt s10, mm.cellAt s11, mm.cellAt s12, mm.cellAt s13, mm.cellAt s14⟩⟩
        try simp only [Act.put, List.getElem_toArray, List.getElem_cons_succ, List.getElem_cons_zero, List.setIfInBounds_toArray, List.set_cons_zero, List.set_cons_succ]
        first | (refine Wk.skip (m := 15) (k := 3) rfl (by rfl) ?_) | (refine Wk.step (m := 15) (k := 3) (v := _) rfl (by rfl) (fun wv hS => by obtain ⟨s0, s1, s2, s3, s4, s5, s6, s7, s8, s9, s10, s11, s12, s13, s14⟩ := hS; go_simp; try with_reducible rfl) ?_)
        try simp only [Act.put, List.getElem_toArray, List.getElem_cons_succ, List.getElem_cons_zero, List.setIfInBounds_toArray, List.set_cons_zero, List.set_cons_succ]
        first | (refine Wk.skip (m := 14) (k := 4) rfl (by rfl) ?_) | (refine Wk.step (m := 14) (k := 4) (v := _) rfl (by rfl) (fun wv hS => by obtain ⟨s0, s1, s2, s3, s4, s5, s6, s7, s8, s9, s10, s11, s12, s13, s14⟩ := hS; go_simp; try with_reducible rfl) ?_)
        try simp only [Act.put, List.getElem_toArray, List.getElem_cons_succ, List.getElem_cons_zero, List.setIfInBounds_toArray, List.set_cons_zero, List.set_cons_succ]
        first | (refine Wk.skip (m := 13) (k := 5) rfl (by rfl) ?_) | (refine Wk.step (m := 13) (k := 5) (v := _) rfl (by rfl) (fun wv hS => by obtain ⟨s0, s1, s2, s3, s4, s5, s6, s7, s8, s9, s10, s11, s12, s13, s14⟩ := hS; go_simp; try with_reducible rfl) ?_)
        try simp only [Act.put, List.getElem_toArray, List.getElem_cons_succ, List.getElem_cons_zero, List.setIfInBounds_toArray, List.set_cons_zero, List.set_cons_succ]
        first | (refine Wk.skip (m := 12) (k := 6) rfl (by rfl) ?_) | (refine Wk.step (m := 12) (k := 6) (v := _) rfl (by rfl) (fun wv hS => by obtain ⟨s0, s1, s2, s3, s4, s5, s6, s7, s8, s9, s10, s11, s12, s13, s14⟩ := hS; go_simp; try with_reducible rfl) ?_)
        try simp only [Act.put, List.getElem_toArray, List.getElem_cons_succ, List.getElem_cons_zero, List.setIfInBounds_toArray, List.set_cons_zero, List.set_cons_succ]
        first | (refine Wk.skip (m := 11) (k := 7) rfl (by rfl) ?_) | (refine Wk.step (m := 11) (k := 7) (v := _) rfl (by rfl) (fun wv hS => by obtain ⟨s0, s1, s2, s3, s4, s5, s6, s7, s8, s9, s10, s11, s12, s13, s14⟩ := hS; go_simp; try with_reducible rfl) ?_)
        try simp only [Act.put, List.getElem_toArray, List.getElem_cons_succ, List.getElem_cons_zero, List.setIfInBounds_toArray, List.set_cons_zero, List.set_cons_succ]
        first | (refine Wk.skip (m := 10) (k := 8) rfl (by rfl) ?_) | (refine Wk.step (m := 10) (k := 8) (v := _) rfl (by rfl) (fun wv hS => by obtain ⟨s0, s1, s2, s3, s4, s5, s6, s7, s8, s9, s10, s11, s12, s13, s14⟩ := hS; go_simp; try with_reducible rfl) ?_)
        try simp only [Act.put, List.getElem_toArray, List.getElem_cons_succ, List.getElem_cons_zero, List.setIfInBounds_toArray, List.set_cons_zero, List.set_cons_succ]
        first | (refine Wk.skip (m := 9) (k := 9) rfl (by rfl) ?_) | (refine Wk.step (m := 9) (k := 9) (v := _) rfl (by rfl) (fun wv hS => by obtain ⟨s0, s1, s2, s3, s4, s5, s6, s7, s8, s9, s10, s11, s12, s13, s14⟩ := hS; go_simp; try with_reducible rfl) ?_)
        try simp only [Act.put, List.getElem_toArray, List.getElem_cons_succ, List.getElem_cons_zero, List.setIfInBounds_toArray, List.set_cons_zero, List.set_cons_succ]
        first | (refine Wk.skip (m := 8) (k := 10) rfl (by rfl) ?_) | (refine Wk.step (m := 8) (k := 10) (v := _) rfl (by rfl) (fun wv hS => by obtain ⟨s0, s1, s2, s3, s4, s5, s6, s7, s8, s9, s10, s11, s12, s13, s14⟩ := hS; go_simp; try with_reducible rfl) ?_)
        try simp only [Act.put, List.getElem_toArray, List.getElem_cons_succ, List.getElem_cons_zero, List.setIfInBounds_toArray, List.set_cons_zero, List.set_cons_succ]
        first | (refine Wk.skip (m := 7) (k := 11) rfl (by rfl) ?_) | (refine Wk.step (m := 7) (k := 11) (v := _) rfl (by rfl) (fun wv hS => by obtain ⟨s0, s1, s2, s3, s4, s5, s6, s7, s8, s9, s10, s11, s12, s13, s14⟩ := hS; go_simp; try with_reducible rfl) ?_)
        try simp only [Act.put, List.getElem_toArray, List.getElem_cons_succ, List.getElem_cons_zero, List.setIfInBounds_toArray, List.set_cons_zero, List.set_cons_succ]
        first | (refine Wk.skip (m := 6) (k := 12) rfl (by rfl) ?_) | (refine Wk.step (m := 6) (k := 12) (v := _) rfl (by rfl) (fun wv hS => by obtain ⟨s0, s1, s2, s3, s4, s5, s6, s7, s8, s9, s10, s11, s12, s13, s14⟩ := hS; go_simp; try with_reducible rfl) ?_)
        try simp only [Act.put, List.getElem_toArray, List.getElem_cons_succ, List.getElem_cons_zero, List.setIfInBounds_toArray, List.set_cons_zero, List.set_cons_succ]
        first | (refine Wk.skip (m := 5) (k := 13) rfl (by rfl) ?_) | (refine Wk.step (m := 5) (k := 13) (v := _) rfl (by rfl) (fun wv hS => by obtain ⟨s0, s1, s2, s3, s4, s5, s6, s7, s8, s9, s10, s11, s12, s13, s14⟩ := hS; go_simp; try with_reducible rfl) ?_)
        try simp only [Act.put, List.getElem_toArray, List.getElem_cons_succ, List.getElem_cons_zero, List.setIfInBounds_toArray, List.set_cons_zero, List.set_cons_succ]
        first | (refine Wk.skip (m := 4) (k := 14) rfl (by rfl) ?_) | (refine Wk.step (m := 4) (k := 14) (v := _) rfl (by rfl) (fun wv hS => by obtain ⟨s0, s1, s2, s3, s4, s5, s6, s7, s8, s9, s10, s11, s12, s13, s14⟩ := hS; go_simp; try with_reducible rfl) ?_)
        try simp only [Act.put, List.getElem_toArray, List.getElem_cons_succ, List.getElem_cons_zero, List.setIfInBounds_toArray, List.set_cons_zero, List.set_cons_succ]
        first | (refine Wk.skip (m := 3) (k := 15) rfl (by rfl) ?_) | (refine Wk.step (m := 3) (k := 15) (v := _) rfl (by rfl) (fun wv hS => by obtain ⟨s0, s1, s2, s3, s4, s5, s6, s7, s8, s9, s10, s11, s12, s13, s14⟩ := hS; go_simp; try with_reducible rfl) ?_)
        try simp only [Act.put, List.getElem_toArray, List.getElem_cons_succ, List.getElem_cons_zero, List.setIfInBounds_toArray, List.set_cons_zero, List.set_cons_succ]
        first | (refine Wk.skip (m := 2) (k := 16) rfl (by rfl) ?_) | (refine Wk.step (m := 2) (k := 16) (v := _) rfl (by rfl) (fun wv hS => by obtain ⟨s0, s1, s2, s3, s4, s5, s6, s7, s8, s9, s10, s11, s12, s13, s14⟩ := hS; go_simp; try with_reducible rfl) ?_)
        try simp only [Act.put, List.getElem_toArray, List.getElem_cons_succ, List.getElem_cons_zero, List.setIfInBounds_toArray, List.set_cons_zero, List.set_cons_succ]
        first | (refine Wk.skip (m := 1) (k := 17) rfl (by rfl) ?_) | (refine Wk.step (m := 1) (k := 17) (v := _) rfl (by rfl) (fun wv hS => by obtain ⟨s0, s1, s2, s3, s4, s5, s6, s7, s8, s9, s10, s11, s12, s13, s14⟩ := hS; go_simp; try with_reducible rfl) ?_)
        try simp only [Act.put, List.getElem_toArray, List.getElem_cons_succ, List.getElem_cons_zero, List.setIfInBounds_toArray, List.set_cons_zero, List.set_cons_succ]
        first | (refine Wk.skip (m := 0) (k := 18) rfl (by rfl) ?_) | (refine Wk.step (m := 0) (k := 18) (v := _) rfl (by rfl) (fun wv hS => by obtain ⟨s0, s1, s2, s3, s4, s5, s6, s7, s8, s9, s10, s11, s12, s13, s14⟩ := hS; go_simp; try with_reducible rfl) ?_)
        try simp only [Act.put, List.getElem_toArray, List.getElem_cons_succ, List.getElem_cons_zero, List.setIfInBounds_toArray, List.set_cons_zero, List.set_cons_succ]
        refine Wk.done fun wE hE => ?_
        clear u0 u1 u2 u3 u4 u5 u6 u7 u8 u9 q0 q1 q2 q3
        obtain ⟨mE, u0, u1, u2, u3, u4, u5, u6, u7, u8, u9, q0, q1, q2, q3⟩ := hE
        go_wp2_with fail
        rw [HN.out]
        exact bodyPost_end (results_none rfl _ _ _) rfl ⟨⟨_, rfl⟩, a, n, c, gs, q0, q1, q2, q3, own_keptR hO mE, hg, hR, (hK.mk mE hhib (.inr (.inr (Nat.le_refl _)))).wide (Nat.le_refl _) (Nat.le_trans hhib mE.size), (fun b hb _ => (M0.trans mE).block b (by omega) (.inr (Nat.zero_le _))), (mW.trans (M0.trans mE))⟩

end Go.Proofs.Ytdlafigjkefllaa
namespace Go.Proofs.Ytdlafigjkefllaa
open Go.ChangeShapes Go.WideShapes Go.ChangeAt Go.RowKit
set_option linter.unusedVariables false
set_option maxRecDepth 100000 in
set_option maxHeartbeats 16000000 in
theorem implHData (x0 x1 x2 : Int) (a : Option Addr) (n c B : Nat) (zs : List TMessage) (p0 p1 p2 p4 p5 p6 p7 p8 : Int) (a3 : Option Addr) (n3 c3 : Nat) (ad9 : Addr) (n9 c9 B9 : Nat) (z9 : List TByte) (w : World) (h : HasMessage w B a n zs) (hB : B ≤ w.heap.size) (hs : szMessage zs n ≤ 1048576) (h9 : HasByte w B9 (some ad9) n9 z9) (hB9 : B9 ≤ w.heap.size) (hn9 : n9 ≤ 1048576) (hx2 : -9223372036854775808 ≤ x2) :
    Calls Try.prog 30 #[.agg #[.int .i64 x0, .int .i64 x1, .int .i64 x2, .slice a n c], .agg #[.int .i64 p0, .int .i64 p1, .int .i64 p2, .slice a3 n3 c3, .int .i64 p4, .int .i64 p5, .int .i64 p6, .int .i64 p7, .int .i64 p8, .slice (some ad9) n9 c9]] w (OutInb x0 x1 (nextV (hdB x0 x1 x2 p0 p1 p2 p8) x2) (moreL (hdB x0 x1 x2 p0 p1 p2 p8) zs ⟨z9⟩) w) := by
  have M0 : Mk0 w (((w.alloc (Obj.cells #[Value.int .i64 x0, Value.int .i64 x1, Value.int .i64 x2, Value.slice a n c] 59)).alloc (Obj.cells #[Value.int .i64 p0, Value.int .i64 p1, Value.int .i64 p2, Value.slice a3 n3 c3, Value.int .i64 p4, Value.int .i64 p5, Value.int .i64 p6, Value.int .i64 p7, Value.int .i64 p8, Value.slice (some ad9) n9 c9] 66)).alloc (Obj.cells #[Value.int .i64 0, Value.int .i64 0, Value.int .i64 0, Value.slice none 0 0] 59)) := (((Mk.alloc w (Obj.cells #[Value.int .i64 x0, Value.int .i64 x1, Value.int .i64 x2, Value.slice a n c] 59)).new (Obj.cells #[Value.int .i64 p0, Value.int .i64 p1, Value.int .i64 p2, Value.slice a3 n3 c3, Value.int .i64 p4, Value.int .i64 p5, Value.int .i64 p6, Value.int .i64 p7, Value.int .i64 p8, Value.slice (some ad9) n9 c9] 66)).new (Obj.cells #[Value.int .i64 0, Value.int .i64 0, Value.int .i64 0, Value.slice none 0 0] 59))
  have k0 : (((w.alloc (Obj.cells #[Value.int .i64 x0, Value.int .i64 x1, Value.int .i64 x2, Value.slice a n c] 59)).alloc (Obj.cells #[Value.int .i64 p0, Value.int .i64 p1, Value.int .i64 p2, Value.slice a3 n3 c3, Value.int .i64 p4, Value.int .i64 p5, Value.int .i64 p6, Value.int .i64 p7, Value.int .i64 p8, Value.slice (some ad9) n9 c9] 66)).alloc (Obj.cells #[Value.int .i64 0, Value.int .i64 0, Value.int .i64 0, Value.slice none 0 0] 59)).cell? ⟨w.heap.size, 0, none⟩ = some (.int .i64 x0) := by simp [go_sem]
  have k1 : (((w.alloc (Obj.cells #[Value.int .i64 x0, Value.int .i64 x1, Value.int .i64 x2, Value.slice a n c] 59)).alloc (Obj.cells #[Value.int .i64 p0, Value.int .i64 p1, Value.int .i64 p2, Value.slice a3 n3 c3, Value.int .i64 p4, Value.int .i64 p5, Value.int .i64 p6, Value.int .i64 p7, Value.int .i64 p8, Value.slice (some ad9) n9 c9] 66)).alloc (Obj.cells #[Value.int .i64 0, Value.int .i64 0, Value.int .i64 0, Value.slice none 0 0] 59)).cell? ⟨w.heap.size, 1, none⟩ = some (.int .i64 x1) := by simp [go_sem]
  have k2 : (((w.alloc (Obj.cells #[Value.int .i64 x0, Value.int .i64 x1, Value.int .i64 x2, Value.slice a n c] 59)).alloc (Obj.cells #[Value.int .i64 p0, Value.int .i64 p1, Value.int .i64 p2, Value.slice a3 n3 c3, Value.int .i64 p4, Value.int .i64 p5, Value.int .i64 p6, Value.int .i64 p7, Value.int .i64 p8, Value.slice (some ad9) n9 c9] 66)).alloc (Obj.cells #[Value.int .i64 0, Value.int .i64 0, Value.int .i64 0, Value.slice none 0 0] 59)).cell? ⟨w.heap.size, 2, none⟩ = some (.int .i64 x2) := by simp [go_sem]
  have k3 : (((w.alloc (Obj.cells #[Value.int .i64 x0, Value.int .i64 x1, Value.int .i64 x2, Value.slice a n c] 59)).alloc (Obj.cells #[Value.int .i64 p0, Value.int .i64 p1, Value.int .i64 p2, Value.slice a3 n3 c3, Value.int .i64 p4, Value.int .i64 p5, Value.int .i64 p6, Value.int .i64 p7, Value.int .i64 p8, Value.slice (some ad9) n9 c9] 66)).alloc (Obj.cells #[Value.int .i64 0, Value.int .i64 0, Value.int .i64 0, Value.slice none 0 0] 59)).cell? ⟨w.heap.size, 3, none⟩ = some (.slice a n c) := by simp [go_sem]
  have u0 : (((w.alloc (Obj.cells #[Value.int .i64 x0, Value.int .i64 x1, Value.int .i64 x2, Value.slice a n c] 59)).alloc (Obj.cells #[Value.int .i64 p0, Value.int .i64 p1, Value.int .i64 p2, Value.slice a3 n3 c3, Value.int .i64 p4, Value.int .i64 p5, Value.int .i64 p6, Value.int .i64 p7, Value.int .i64 p8, Value.slice (some ad9) n9 c9] 66)).alloc (Obj.cells #[Value.int .i64 0, Value.int .i64 0, Value.int .i64 0, Value.slice none 0 0] 59)).cell? ⟨w.heap.size + 1, 0, none⟩ = some (.int .i64 p0) := by simp [go_sem]
  have u1 : (((w.alloc (Obj.cells #[Value.int .i64 x0, Value.int .i64 x1, Value.int .i64 x2, Value.slice a n c] 59)).alloc (Obj.cells #[Value.int .i64 p0, Value.int .i64 p1, Value.int .i64 p2, Value.slice a3 n3 c3, Value.int .i64 p4, Value.int .i64 p5, Value.int .i64 p6, Value.int .i64 p7, Value.int .i64 p8, Value.slice (some ad9) n9 c9] 66)).alloc (Obj.cells #[Value.int .i64 0, Value.int .i64 0, Value.int .i64 0, Value.slice none 0 0] 59)).cell? ⟨w.heap.size + 1, 1, none⟩ = some (.int .i64 p1) := by simp [go_sem]
  have u2 : (((w.alloc (Obj.cells #[Value.int .i64 x0, Value.int .i64 x1, Value.int .i64 x2, Value.slice a n c] 59)).alloc (Obj.cells #[Value.int .i64 p0, Value.int .i64 p1, Value.int .i64 p2, Value.slice a3 n3 c3, Value.int .i64 p4, Value.int .i64 p5, Value.int .i64 p6, Value.int .i64 p7, Value.int .i64 p8, Value.slice (some ad9) n9 c9] 66)).alloc (Obj.cells #[Value.int .i64 0, Value.int .i64 0, Value.int .i64 0, Value.slice none 0 0] 59)).cell? ⟨w.heap.size + 1, 2, none⟩ = some (.int .i64 p2) := by simp [go_sem]
  have u3 : (((w.alloc (Obj.cells #[Value.int .i64 x0, Value.int .i64 x1, Value.int .i64 x2, Value.slice a n c] 59)).alloc (Obj.cells #[Value.int .i64 p0, Value.int .i64 p1, Value.int .i64 p2, Value.slice a3 n3 c3, Value.int .i64 p4, Value.int .i64 p5, Value.int .i64 p6, Value.int .i64 p7, Value.int .i64 p8, Value.slice (some ad9) n9 c9] 66)).alloc (Obj.cells #[Value.int .i64 0, Value.int .i64 0, Value.int .i64 0, Value.slice none 0 0] 59)).cell? ⟨w.heap.size + 1, 3, none⟩ = some (.slice a3 n3 c3) := by simp [go_sem]
  have u4 : (((w.alloc (Obj.cells #[Value.int .i64 x0, Value.int .i64 x1, Value.int .i64 x2, Value.slice a n c] 59)).alloc (Obj.cells #[Value.int .i64 p0, Value.int .i64 p1, Value.int .i64 p2, Value.slice a3 n3 c3, Value.int .i64 p4, Value.int .i64 p5, Value.int .i64 p6, Value.int .i64 p7, Value.int .i64 p8, Value.slice (some ad9) n9 c9] 66)).alloc (Obj.cells #[Value.int .i64 0, Value.int .i64 0, Value.int .i64 0, Value.slice none 0 0] 59)).cell? ⟨w.heap.size + 1, 4, none⟩ = some (.int .i64 p4) := by simp [go_sem]
  have u5 : (((w.alloc (Obj.cells #[Value.int .i64 x0, Value.int .i64 x1, Value.int .i64 x2, Value.slice a n c] 59)).alloc (Obj.cells #[Value.int .i64 p0, Value.int .i64 p1, Value.int .i64 p2, Value.slice a3 n3 c3, Value.int .i64 p4, Value.int .i64 p5, Value.int .i64 p6, Value.int .i64 p7, Value.int .i64 p8, Value.slice (some ad9) n9 c9] 66)).alloc (Obj.cells #[Value.int .i64 0, Value.int .i64 0, Value.int .i64 0, Value.slice none 0 0] 59)).cell? ⟨w.heap.size + 1, 5, none⟩ = some (.int .i64 p5) := by simp [go_sem]
  have u6 : (((w.alloc (Obj.cells #[Value.int .i64 x0, Value.int .i64 x1, Value.int .i64 x2, Value.slice a n c] 59)).alloc (Obj.cells #[Value.int .i64 p0, Value.int .i64 p1, Value.int .i64 p2, Value.slice a3 n3 c3, Value.int .i64 p4, Value.int .i64 p5, Value.int .i64 p6, Value.int .i64 p7, Value.int .i64 p8, Value.slice (some ad9) n9 c9] 66)).alloc (Obj.cells #[Value.int .i64 0, Value.int .i64 0, Value.int .i64 0, Value.slice none 0 0] 59)).cell? ⟨w.heap.size + 1, 6, none⟩ = some (.int .i64 p6) := by simp [go_sem]
  have u7 : (((w.alloc (Obj.cells #[Value.int .i64 x0, Value.int .i64 x1, Value.int .i64 x2, Value.slice a n c] 59)).alloc (Obj.cells #[Value.int .i64 p0, Value.int .i64 p1, Value.int .i64 p2, Value.slice a3 n3 c3, Value.int .i64 p4, Value.int .i64 p5, Value.int .i64 p6, Value.int .i64 p7, Value.int .i64 p8, Value.slice (some ad9) n9 c9] 66)).alloc (Obj.cells #[Value.int .i64 0, Value.int .i64 0, Value.int .i64 0, Value.slice none 0 0] 59)).cell? ⟨w.heap.size + 1, 7, none⟩ = some (.int .i64 p7) := by simp [go_sem]
  have u8 : (((w.alloc (Obj.cells #[Value.int .i64 x0, Value.int .i64 x1, Value.int .i64 x2, Value.slice a n c] 59)).alloc (Obj.cells #[Value.int .i64 p0, Value.int .i64 p1, Value.int .i64 p2, Value.slice a3 n3 c3, Value.int .i64 p4, Value.int .i64 p5, Value.int .i64 p6, Value.int .i64 p7, Value.int .i64 p8, Value.slice (some ad9) n9 c9] 66)).alloc (Obj.cells #[Value.int .i64 0, Value.int .i64 0, Value.int .i64 0, Value.slice none 0 0] 59)).cell? ⟨w.heap.size + 1, 8, none⟩ = some (.int .i64 p8) := by simp [go_sem]
  have u9 : (((w.alloc (Obj.cells #[Value.int .i64 x0, Value.int .i64 x1, Value.int .i64 x2, Value.slice a n c] 59)).alloc (Obj.cells #[Value.int .i64 p0, Value.int .i64 p1, Value.int .i64 p2, Value.slice a3 n3 c3, Value.int .i64 p4, Value.int .i64 p5, Value.int .i64 p6, Value.int .i64 p7, Value.int .i64 p8, Value.slice (some ad9) n9 c9] 66)).alloc (Obj.cells #[Value.int .i64 0, Value.int .i64 0, Value.int .i64 0, Value.slice none 0 0] 59)).cell? ⟨w.heap.size + 1, 9, none⟩ = some (.slice (some ad9) n9 c9) := by simp [go_sem]
  have r0 : (((w.alloc (Obj.cells #[Value.int .i64 x0, Value.int .i64 x1, Value.int .i64 x2, Value.slice a n c] 59)).alloc (Obj.cells #[Value.int .i64 p0, Value.int .i64 p1, Value.int .i64 p2, Value.slice a3 n3 c3, Value.int .i64 p4, Value.int .i64 p5, Value.int .i64 p6, Value.int .i64 p7, Value.int .i64 p8, Value.slice (some ad9) n9 c9] 66)).alloc (Obj.cells #[Value.int .i64 0, Value.int .i64 0, Value.int .i64 0, Value.slice none 0 0] 59)).cell? ⟨w.heap.size + 1 + 1, 0, none⟩ = some (.int .i64 0) := by simp [go_sem]
  have r1 : (((w.alloc (Obj.cells #[Value.int .i64 x0, Value.int .i64 x1, Value.int .i64 x2, Value.slice a n c] 59)).alloc (Obj.cells #[Value.int .i64 p0, Value.int .i64 p1, Value.int .i64 p2, Value.slice a3 n3 c3, Value.int .i64 p4, Value.int .i64 p5, Value.int .i64 p6, Value.int .i64 p7, Value.int .i64 p8, Value.slice (some ad9) n9 c9] 66)).alloc (Obj.cells #[Value.int .i64 0, Value.int .i64 0, Value.int .i64 0, Value.slice none 0 0] 59)).cell? ⟨w.heap.size + 1 + 1, 1, none⟩ = some (.int .i64 0) := by simp [go_sem]
  have r2 : (((w.alloc (Obj.cells #[Value.int .i64 x0, Value.int .i64 x1, Value.int .i64 x2, Value.slice a n c] 59)).alloc (Obj.cells #[Value.int .i64 p0, Value.int .i64 p1, Value.int .i64 p2, Value.slice a3 n3 c3, Value.int .i64 p4, Value.int .i64 p5, Value.int .i64 p6, Value.int .i64 p7, Value.int .i64 p8, Value.slice (some ad9) n9 c9] 66)).alloc (Obj.cells #[Value.int .i64 0, Value.int .i64 0, Value.int .i64 0, Value.slice none 0 0] 59)).cell? ⟨w.heap.size + 1 + 1, 2, none⟩ = some (.int .i64 0) := by simp [go_sem]
  have r3 : (((w.alloc (Obj.cells #[Value.int .i64 x0, Value.int .i64 x1, Value.int .i64 x2, Value.slice a n c] 59)).alloc (Obj.cells #[Value.int .i64 p0, Value.int .i64 p1, Value.int .i64 p2, Value.slice a3 n3 c3, Value.int .i64 p4, Value.int .i64 p5, Value.int .i64 p6, Value.int .i64 p7, Value.int .i64 p8, Value.slice (some ad9) n9 c9] 66)).alloc (Obj.cells #[Value.int .i64 0, Value.int .i64 0, Value.int .i64 0, Value.slice none 0 0] 59)).cell? ⟨w.heap.size + 1 + 1, 3, none⟩ = some (.slice none 0 0) := by simp [go_sem]
  have hs0 : (((w.alloc (Obj.cells #[Value.int .i64 x0, Value.int .i64 x1, Value.int .i64 x2, Value.slice a n c] 59)).alloc (Obj.cells #[Value.int .i64 p0, Value.int .i64 p1, Value.int .i64 p2, Value.slice a3 n3 c3, Value.int .i64 p4, Value.int .i64 p5, Value.int .i64 p6, Value.int .i64 p7, Value.int .i64 p8, Value.slice (some ad9) n9 c9] 66)).alloc (Obj.cells #[Value.int .i64 0, Value.int .i64 0, Value.int .i64 0, Value.slice none 0 0] 59)).heap.size = w.heap.size + 1 + 1 + 1 := by simp only [World.size_alloc]
  have fK : ∀ q, (((w.alloc (Obj.cells #[Value.int .i64 x0, Value.int .i64 x1, Value.int .i64 x2, Value.slice a n c] 59)).alloc (Obj.cells #[Value.int .i64 p0, Value.int .i64 p1, Value.int .i64 p2, Value.slice a3 n3 c3, Value.int .i64 p4, Value.int .i64 p5, Value.int .i64 p6, Value.int .i64 p7, Value.int .i64 p8, Value.slice (some ad9) n9 c9] 66)).alloc (Obj.cells #[Value.int .i64 0, Value.int .i64 0, Value.int .i64 0, Value.slice none 0 0] 59)).frozen? ⟨w.heap.size, q, none⟩ = false := fun q => by simp [go_sem]
  have fR : ∀ q, (((w.alloc (Obj.cells #[Value.int .i64 x0, Value.int .i64 x1, Value.int .i64 x2, Value.slice a n c] 59)).alloc (Obj.cells #[Value.int .i64 p0, Value.int .i64 p1, Value.int .i64 p2, Value.slice a3 n3 c3, Value.int .i64 p4, Value.int .i64 p5, Value.int .i64 p6, Value.int .i64 p7, Value.int .i64 p8, Value.slice (some ad9) n9 c9] 66)).alloc (Obj.cells #[Value.int .i64 0, Value.int .i64 0, Value.int .i64 0, Value.slice none 0 0] 59)).frozen? ⟨w.heap.size + 1 + 1, q, none⟩ = false := fun q => by simp [go_sem]
  have hnn := Nat.le_trans (szMessage_n zs n) hs
  go_enter Try.func30, Try.ntmps30
  go_wp2_with fail
  generalize (((w.alloc (Obj.cells #[Value.int .i64 x0, Value.int .i64 x1, Value.int .i64 x2, Value.slice a n c] 59)).alloc (Obj.cells #[Value.int .i64 p0, Value.int .i64 p1, Value.int .i64 p2, Value.slice a3 n3 c3, Value.int .i64 p4, Value.int .i64 p5, Value.int .i64 p6, Value.int .i64 p7, Value.int .i64 p8, Value.slice (some ad9) n9 c9] 66)).alloc (Obj.cells #[Value.int .i64 0, Value.int .i64 0, Value.int .i64 0, Value.slice none 0 0] 59)) = wb at *
  refine (implCopyIn x0 x1 x2 a n c B zs wb (h.mk M0 hB (.inr (Nat.le_refl _))) (Nat.le_trans hB M0.size) hs).mono ?_
  rintro e w2 ⟨A, N, C, gs, rfl, hO, hg, hR, hK, m2⟩
  replace k0 := m2.cellAt k0
  replace k1 := m2.cellAt k1
  replace k2 := m2.cellAt k2
  replace k3 := m2.cellAt k3
  replace u0 := m2.cellAt u0
  replace u1 := m2.cellAt u1
  replace u2 := m2.cellAt u2
  replace u3 := m2.cellAt u3
  replace u4 := m2.cellAt u4
  replace u5 := m2.cellAt u5
  replace u6 := m2.cellAt u6
  replace u7 := m2.cellAt u7
  replace u8 := m2.cellAt u8
  replace u9 := m2.cellAt u9
  replace r0 := m2.cellAt r0
  replace r1 := m2.cellAt r1
  replace r2 := m2.cellAt r2
  replace r3 := m2.cellAt r3
  replace fK : ∀ q, w2.frozen? ⟨w.heap.size, q, none⟩ = false := fun q => (m2.frozen (b := w.heap.size) (o := q) (by omega) (.inr (Nat.zero_le _))).trans (fK q)
  replace fR : ∀ q, w2.frozen? ⟨w.heap.size + 1 + 1, q, none⟩ = false := fun q => (m2.frozen (b := w.heap.size + 1 + 1) (o := q) (by omega) (.inr (Nat.zero_le _))).trans (fR q)
  have M := M0.trans m2
  have hz2 := m2.size
  have hNn : Hid (N = n) := Lib.hid (hR.symm.trans h.1)
  go_wp2_with fail
  replace k0 := World.cell?_setCell_same _ _ (.int .i64 x0) k0
  replace k1 := cell_set k1 ⟨w.heap.size, 0, none⟩ (.int .i64 x0) (.inr (by simp))
  replace k2 := cell_set k2 ⟨w.heap.size, 0, none⟩ (.int .i64 x0) (.inr (by simp))
  replace k3 := cell_set k3 ⟨w.heap.size, 0, none⟩ (.int .i64 x0) (.inr (by simp))
  replace u0 := cell_set u0 ⟨w.heap.size, 0, none⟩ (.int .i64 x0) (.inl (show w.heap.size ≠ w.heap.size + 1 by omega))
  replace u1 := cell_set u1 ⟨w.heap.size, 0, none⟩ (.int .i64 x0) (.inl (show w.heap.size ≠ w.heap.size + 1 by omega))
  replace u2 := cell_set u2 ⟨w.heap.size, 0, none⟩ (.int .i64 x0) (.inl (show w.heap.size ≠ w.heap.size + 1 by omega))
  replace u3 := cell_set u3 ⟨w.heap.size, 0, none⟩ (.int .i64 x0) (.inl (show w.heap.size ≠ w.heap.size + 1 by omega))
  replace u4 := cell_set u4 ⟨w.heap.size, 0, none⟩ (.int .i64 x0) (.inl (show w.heap.size ≠ w.heap.size + 1 by omega))
  replace u5 := cell_set u5 ⟨w.heap.size, 0, none⟩ (.int .i64 x0) (.inl (show w.heap.size ≠ w.heap.size + 1 by omega))
  replace u6 := cell_set u6 ⟨w.heap.size, 0, none⟩ (.int .i64 x0) (.inl (show w.heap.size ≠ w.heap.size + 1 by omega))
  replace u7 := cell_set u7 ⟨w.heap.size, 0, none⟩ (.int .i64 x0) (.inl (show w.heap.size ≠ w.heap.size + 1 by omega))
  replace u8 := cell_set u8 ⟨w.heap.size, 0, none⟩ (.int .i64 x0) (.inl (show w.heap.size ≠ w.heap.size + 1 by omega))
  replace u9 := cell_set u9 ⟨w.heap.size, 0, none⟩ (.int .i64 x0) (.inl (show w.heap.size ≠ w.heap.size + 1 by omega))
  replace r0 := cell_set r0 ⟨w.heap.size, 0, none⟩ (.int .i64 x0) (.inl (show w.heap.size ≠ w.heap.size + 1 + 1 by omega))
  replace r1 := cell_set r1 ⟨w.heap.size, 0, none⟩ (.int .i64 x0) (.inl (show w.heap.size ≠ w.heap.size + 1 + 1 by omega))
  replace r2 := cell_set r2 ⟨w.heap.size, 0, none⟩ (.int .i64 x0) (.inl (show w.heap.size ≠ w.heap.size + 1 + 1 by omega))
  replace r3 := cell_set r3 ⟨w.heap.size, 0, none⟩ (.int .i64 x0) (.inl (show w.heap.size ≠ w.heap.size + 1 + 1 by omega))
  replace hO := own_put hO ⟨w.heap.size, 0, none⟩ (.int .i64 x0) (show w.heap.size < wb.heap.size by omega)
  replace hK := hK.set ⟨w.heap.size, 0, none⟩ (.int .i64 x0) (.inr (.inl (show w.heap.size < wb.heap.size by omega)))
  replace M := M.put ⟨w.heap.size, 0, none⟩ (.int .i64 x0) (show w.heap.size ≤ w.heap.size by omega)
  replace k0 := cell_set k0 ⟨w.heap.size, 1, none⟩ (.int .i64 x1) (.inr (by simp))
  replace k1 := World.cell?_setCell_same _ _ (.int .i64 x1) k1
  replace k2 := cell_set k2 ⟨w.heap.size, 1, none⟩ (.int .i64 x1) (.inr (by simp))
  replace k3 := cell_set k3 ⟨w.heap.size, 1, none⟩ (.int .i64 x1) (.inr (by simp))
  replace u0 := cell_set u0 ⟨w.heap.size, 1, none⟩ (.int .i64 x1) (.inl (show w.heap.size ≠ w.heap.size + 1 by omega))
  replace u1 := cell_set u1 ⟨w.heap.size, 1, none⟩ (.int .i64 x1) (.inl (show w.heap.size ≠ w.heap.size + 1 by omega))
  replace u2 := cell_set u2 ⟨w.heap.size, 1, none⟩ (.int .i64 x1) (.inl (show w.heap.size ≠ w.heap.size + 1 by omega))
  replace u3 := cell_set u3 ⟨w.heap.size, 1, none⟩ (.int .i64 x1) (.inl (show w.heap.size ≠ w.heap.size + 1 by omega))
  replace u4 := cell_set u4 ⟨w.heap.size, 1, none⟩ (.int .i64 x1) (.inl (show w.heap.size ≠ w.heap.size + 1 by omega))
  replace u5 := cell_set u5 ⟨w.heap.size, 1, none⟩ (.int .i64 x1) (.inl (show w.heap.size ≠ w.heap.size + 1 by omega))
  replace u6 := cell_set u6 ⟨w.heap.size, 1, none⟩ (.int .i64 x1) (.inl (show w.heap.size ≠ w.heap.size + 1 by omega))
  replace u7 := cell_set u7 ⟨w.heap.size, 1, none⟩ (.int .i64 x1) (.inl (show w.heap.size ≠ w.heap.size + 1 by omega))
  replace u8 := cell_set u8 ⟨w.heap.size, 1, none⟩ (.int .i64 x1) (.inl (show w.heap.size ≠ w.heap.size + 1 by omega))
  replace u9 := cell_set u9 ⟨w.heap.size, 1, none⟩ (.int .i64 x1) (.inl (show w.heap.size ≠ w.heap.size + 1 by omega))
  replace r0 := cell_set r0 ⟨w.heap.size, 1, none⟩ (.int .i64 x1) (.inl (show w.heap.size ≠ w.heap.size + 1 + 1 by omega))
  replace r1 := cell_set r1 ⟨w.heap.size, 1, none⟩ (.int .i64 x1) (.inl (show w.heap.size ≠ w.heap.size + 1 + 1 by omega))
  replace r2 := cell_set r2 ⟨w.heap.size, 1, none⟩ (.int .i64 x1) (.inl (show w.heap.size ≠ w.heap.size + 1 + 1 by omega))
  replace r3 := cell_set r3 ⟨w.heap.size, 1, none⟩ (.int .i64 x1) (.inl (show w.heap.size ≠ w.heap.size + 1 + 1 by omega))
  replace hO := own_put hO ⟨w.heap.size, 1, none⟩ (.int .i64 x1) (show w.heap.size < wb.heap.size by omega)
  replace hK := hK.set ⟨w.heap.size, 1, none⟩ (.int .i64 x1) (.inr (.inl (show w.heap.size < wb.heap.size by omega)))
  replace M := M.put ⟨w.heap.size, 1, none⟩ (.int .i64 x1) (show w.heap.size ≤ w.heap.size by omega)
  replace k0 := cell_set k0 ⟨w.heap.size, 2, none⟩ (.int .i64 x2) (.inr (by simp))
  replace k1 := cell_set k1 ⟨w.heap.size, 2, none⟩ (.int .i64 x2) (.inr (by simp))
  replace k2 := World.cell?_setCell_same _ _ (.int .i64 x2) k2
  replace k3 := cell_set k3 ⟨w.heap.size, 2, none⟩ (.int .i64 x2) (.inr (by simp))
  replace u0 := cell_set u0 ⟨w.heap.size, 2, none⟩ (.int .i64 x2) (.inl (show w.heap.size ≠ w.heap.size + 1 by omega))
  replace u1 := cell_set u1 ⟨w.heap.size, 2, none⟩ (.int .i64 x2) (.inl (show w.heap.size ≠ w.heap.size + 1 by omega))
  replace u2 := cell_set u2 ⟨w.heap.size, 2, none⟩ (.int .i64 x2) (.inl (show w.heap.size ≠ w.heap.size + 1 by omega))
  replace u3 := cell_set u3 ⟨w.heap.size, 2, none⟩ (.int .i64 x2) (.inl (show w.heap.size ≠ w.heap.size + 1 by omega))
  replace u4 := cell_set u4 ⟨w.heap.size, 2, none⟩ (.int .i64 x2) (.inl (show w.heap.size ≠ w.heap.size + 1 by omega))
  replace u5 := cell_set u5 ⟨w.heap.size, 2, none⟩ (.int .i64 x2) (.inl (show w.heap.size ≠ w.heap.size + 1 by omega))
  replace u6 := cell_set u6 ⟨w.heap.size, 2, none⟩ (.int .i64 x2) (.inl (show w.heap.size ≠ w.heap.size + 1 by omega))
  replace u7 := cell_set u7 ⟨w.heap.size, 2, none⟩ (.int .i64 x2) (.inl (show w.heap.size ≠ w.heap.size + 1 by omega))
  replace u8 := cell_set u8 ⟨w.heap.size, 2, none⟩ (.int .i64 x2) (.inl (show w.heap.size ≠ w.heap.size + 1 by omega))
  replace u9 := cell_set u9 ⟨w.heap.size, 2, none⟩ (.int .i64 x2) (.inl (show w.heap.size ≠ w.heap.size + 1 by omega))
  replace r0 := cell_set r0 ⟨w.heap.size, 2, none⟩ (.int .i64 x2) (.inl (show w.heap.size ≠ w.heap.size + 1 + 1 by omega))
  replace r1 := cell_set r1 ⟨w.heap.size, 2, none⟩ (.int .i64 x2) (.inl (show w.heap.size ≠ w.heap.size + 1 + 1 by omega))
  replace r2 := cell_set r2 ⟨w.heap.size, 2, none⟩ (.int .i64 x2) (.inl (show w.heap.size ≠ w.heap.size + 1 + 1 by omega))
  replace r3 := cell_set r3 ⟨w.heap.size, 2, none⟩ (.int .i64 x2) (.inl (show w.heap.size ≠ w.heap.size + 1 + 1 by omega))
  replace hO := own_put hO ⟨w.heap.size, 2, none⟩ (.int .i64 x2) (show w.heap.size < wb.heap.size by omega)
  replace hK := hK.set ⟨w.heap.size, 2, none⟩ (.int .i64 x2) (.inr (.inl (show w.heap.size < wb.heap.size by omega)))
  replace M := M.put ⟨w.heap.size, 2, none⟩ (.int .i64 x2) (show w.heap.size ≤ w.heap.size by omega)
  replace k0 := cell_set k0 ⟨w.heap.size, 3, none⟩ (.slice A N C) (.inr (by simp))
  replace k1 := cell_set k1 ⟨w.heap.size, 3, none⟩ (.slice A N C) (.inr (by simp))
  replace k2 := cell_set k2 ⟨w.heap.size, 3, none⟩ (.slice A N C) (.inr (by simp))
  replace k3 := World.cell?_setCell_same _ _ (.slice A N C) k3
  replace u0 := cell_set u0 ⟨w.heap.size, 3, none⟩ (.slice A N C) (.inl (show w.heap.size ≠ w.heap.size + 1 by omega))
  replace u1 := cell_set u1 ⟨w.heap.size, 3, none⟩ (.slice A N C) (.inl (show w.heap.size ≠ w.heap.size + 1 by omega))
  replace u2 := cell_set u2 ⟨w.heap.size, 3, none⟩ (.slice A N C) (.inl (show w.heap.size ≠ w.heap.size + 1 by omega))
  replace u3 := cell_set u3 ⟨w.heap.size, 3, none⟩ (.slice A N C) (.inl (show w.heap.size ≠ w.heap.size + 1 by omega))
  replace u4 := cell_set u4 ⟨w.heap.size, 3, none⟩ (.slice A N C) (.inl (show w.heap.size ≠ w.heap.size + 1 by omega))
  replace u5 := cell_set u5 ⟨w.heap.size, 3, none⟩ (.slice A N C) (.inl (show w.heap.size ≠ w.heap.size + 1 by omega))
  replace u6 := cell_set u6 ⟨w.heap.size, 3, none⟩ (.slice A N C) (.inl (show w.heap.size ≠ w.heap.size + 1 by omega))
  replace u7 := cell_set u7 ⟨w.heap.size, 3, none⟩ (.slice A N C) (.inl (show w.heap.size ≠ w.heap.size + 1 by omega))
  replace u8 := cell_set u8 ⟨w.heap.size, 3, none⟩ (.slice A N C) (.inl (show w.heap.size ≠ w.heap.size + 1 by omega))
  replace u9 := cell_set u9 ⟨w.heap.size, 3, none⟩ (.slice A N C) (.inl (show w.heap.size ≠ w.heap.size + 1 by omega))
  replace r0 := cell_set r0 ⟨w.heap.size, 3, none⟩ (.slice A N C) (.inl (show w.heap.size ≠ w.heap.size + 1 + 1 by omega))
  replace r1 := cell_set r1 ⟨w.heap.size, 3, none⟩ (.slice A N C) (.inl (show w.heap.size ≠ w.heap.size + 1 + 1 by omega))
  replace r2 := cell_set r2 ⟨w.heap.size, 3, none⟩ (.slice A N C) (.inl (show w.heap.size ≠ w.heap.size + 1 + 1 by omega))
  replace r3 := cell_set r3 ⟨w.heap.size, 3, none⟩ (.slice A N C) (.inl (show w.heap.size ≠ w.heap.size + 1 + 1 by omega))
  replace hO := own_put hO ⟨w.heap.size, 3, none⟩ (.slice A N C) (show w.heap.size < wb.heap.size by omega)
  replace hK := hK.set ⟨w.heap.size, 3, none⟩ (.slice A N C) (.inr (.inl (show w.heap.size < wb.heap.size by omega)))
  replace M := M.put ⟨w.heap.size, 3, none⟩ (.slice A N C) (show w.heap.size ≤ w.heap.size by omega)
  replace fR := fun q => frozen_set (fR q) ⟨w.heap.size, 0, none⟩ (.int .i64 x0)
  replace fK := fun q => frozen_set (fK q) ⟨w.heap.size, 0, none⟩ (.int .i64 x0)
  replace fR := fun q => frozen_set (fR q) ⟨w.heap.size, 1, none⟩ (.int .i64 x1)
  replace fK := fun q => frozen_set (fK q) ⟨w.heap.size, 1, none⟩ (.int .i64 x1)
  replace fR := fun q => frozen_set (fR q) ⟨w.heap.size, 2, none⟩ (.int .i64 x2)
  replace fK := fun q => frozen_set (fK q) ⟨w.heap.size, 2, none⟩ (.int .i64 x2)
  replace fR := fun q => frozen_set (fR q) ⟨w.heap.size, 3, none⟩ (.slice A N C)
  replace fK := fun q => frozen_set (fK q) ⟨w.heap.size, 3, none⟩ (.slice A N C)
  have hzW : ((((w2.setCell ⟨w.heap.size, 0, none⟩ (.int .i64 x0)).setCell ⟨w.heap.size, 1, none⟩ (.int .i64 x1)).setCell ⟨w.heap.size, 2, none⟩ (.int .i64 x2)).setCell ⟨w.heap.size, 3, none⟩ (.slice A N C)).heap.size = w2.heap.size := by simp only [World.size_set]
  generalize ((((w2.setCell ⟨w.heap.size, 0, none⟩ (.int .i64 x0)).setCell ⟨w.heap.size, 1, none⟩ (.int .i64 x1)).setCell ⟨w.heap.size, 2, none⟩ (.int .i64 x2)).setCell ⟨w.heap.size, 3, none⟩ (.slice A N C)) = w3 at *
  have r0 := r0
  have HDc := implHD w x0 x1 x2 A N C gs zs w.heap.size wb.heap.size w2.heap.size p0 p1 p2 p4 p5 p6 p7 p8 a3 n3 c3 ad9 n9 c9 B9 z9 w3 (by omega) (Nat.le_refl _) (by omega) hz2 (by omega) k0 k1 k2 k3 fK hO hg hR (by have := hNn.out; omega) hK (h9.mk M hB9 (.inr (Nat.le_refl _))) (Nat.le_trans hB9 M.size) hn9 hx2 M
  go_wp2_with fail
  refine HDc.mono ?_
  rintro e w4 ⟨⟨v, rfl⟩, A5, N5, C5, gs5, t0, t1, t2, t3, hO5, hg5, hR5, hK5, hkp, M5⟩
  have hbR := hkp (w.heap.size + 1 + 1) (by omega) (by omega)
  replace r0 := (World.cell?_of_block (w := w3) (a := ⟨w.heap.size + 1 + 1, 0, none⟩) hbR).trans r0
  replace r1 := (World.cell?_of_block (w := w3) (a := ⟨w.heap.size + 1 + 1, 1, none⟩) hbR).trans r1
  replace r2 := (World.cell?_of_block (w := w3) (a := ⟨w.heap.size + 1 + 1, 2, none⟩) hbR).trans r2
  replace r3 := (World.cell?_of_block (w := w3) (a := ⟨w.heap.size + 1 + 1, 3, none⟩) hbR).trans r3
  replace fR : ∀ q, w4.frozen? ⟨w.heap.size + 1 + 1, q, none⟩ = false := fun q => (World.frozen?_of_block (w := w3) (a := ⟨w.heap.size + 1 + 1, q, none⟩) hbR).trans (fR q)
  have hlow4 := M5.size
  clear hkp hbR HDc
  obtain ⟨X2, hX2⟩ : ∃ X, Hid (X = nextV (hdB x0 x1 x2 p0 p1 p2 p8) x2) := ⟨_, Lib.hid rfl⟩
  rw [← hX2.out] at t2
  go_wp2_with fail
  replace r0 := World.cell?_setCell_same _ _ (.int .i64 x0) r0
  replace r1 := cell_set r1 ⟨w.heap.size + 1 + 1, 0, none⟩ (.int .i64 x0) (.inr (by simp))
  replace r2 := cell_set r2 ⟨w.heap.size + 1 + 1, 0, none⟩ (.int .i64 x0) (.inr (by simp))
  replace r3 := cell_set r3 ⟨w.heap.size + 1 + 1, 0, none⟩ (.int .i64 x0) (.inr (by simp))
  replace hO5 := own_put hO5 ⟨w.heap.size + 1 + 1, 0, none⟩ (.int .i64 x0) (show w.heap.size + 1 + 1 < wb.heap.size by omega)
  replace hK5 := hK5.set ⟨w.heap.size + 1 + 1, 0, none⟩ (.int .i64 x0) (.inr (.inl (show w.heap.size + 1 + 1 < wb.heap.size by omega)))
  replace M5 := M5.put ⟨w.heap.size + 1 + 1, 0, none⟩ (.int .i64 x0) (show w.heap.size ≤ w.heap.size + 1 + 1 by omega)
  replace r0 := cell_set r0 ⟨w.heap.size + 1 + 1, 1, none⟩ (.int .i64 x1) (.inr (by simp))
  replace r1 := World.cell?_setCell_same _ _ (.int .i64 x1) r1
  replace r2 := cell_set r2 ⟨w.heap.size + 1 + 1, 1, none⟩ (.int .i64 x1) (.inr (by simp))
  replace r3 := cell_set r3 ⟨w.heap.size + 1 + 1, 1, none⟩ (.int .i64 x1) (.inr (by simp))
  replace hO5 := own_put hO5 ⟨w.heap.size + 1 + 1, 1, none⟩ (.int .i64 x1) (show w.heap.size + 1 + 1 < wb.heap.size by omega)
  replace hK5 := hK5.set ⟨w.heap.size + 1 + 1, 1, none⟩ (.int .i64 x1) (.inr (.inl (show w.heap.size + 1 + 1 < wb.heap.size by omega)))
  replace M5 := M5.put ⟨w.heap.size + 1 + 1, 1, none⟩ (.int .i64 x1) (show w.heap.size ≤ w.heap.size + 1 + 1 by omega)
  replace r0 := cell_set r0 ⟨w.heap.size + 1 + 1, 2, none⟩ (.int .i64 X2) (.inr (by simp))
  replace r1 := cell_set r1 ⟨w.heap.size + 1 + 1, 2, none⟩ (.int .i64 X2) (.inr (by simp))
  replace r2 := World.cell?_setCell_same _ _ (.int .i64 X2) r2
  replace r3 := cell_set r3 ⟨w.heap.size + 1 + 1, 2, none⟩ (.int .i64 X2) (.inr (by simp))
  replace hO5 := own_put hO5 ⟨w.heap.size + 1 + 1, 2, none⟩ (.int .i64 X2) (show w.heap.size + 1 + 1 < wb.heap.size by omega)
  replace hK5 := hK5.set ⟨w.heap.size + 1 + 1, 2, none⟩ (.int .i64 X2) (.inr (.inl (show w.heap.size + 1 + 1 < wb.heap.size by omega)))
  replace M5 := M5.put ⟨w.heap.size + 1 + 1, 2, none⟩ (.int .i64 X2) (show w.heap.size ≤ w.heap.size + 1 + 1 by omega)
  replace r0 := cell_set r0 ⟨w.heap.size + 1 + 1, 3, none⟩ (.slice A5 N5 C5) (.inr (by simp))
  replace r1 := cell_set r1 ⟨w.heap.size + 1 + 1, 3, none⟩ (.slice A5 N5 C5) (.inr (by simp))
  replace r2 := cell_set r2 ⟨w.heap.size + 1 + 1, 3, none⟩ (.slice A5 N5 C5) (.inr (by simp))
  replace r3 := World.cell?_setCell_same _ _ (.slice A5 N5 C5) r3
  replace hO5 := own_put hO5 ⟨w.heap.size + 1 + 1, 3, none⟩ (.slice A5 N5 C5) (show w.heap.size + 1 + 1 < wb.heap.size by omega)
  replace hK5 := hK5.set ⟨w.heap.size + 1 + 1, 3, none⟩ (.slice A5 N5 C5) (.inr (.inl (show w.heap.size + 1 + 1 < wb.heap.size by omega)))
  replace M5 := M5.put ⟨w.heap.size + 1 + 1, 3, none⟩ (.slice A5 N5 C5) (show w.heap.size ≤ w.heap.size + 1 + 1 by omega)
  have hz5 : ((((w4.setCell ⟨w.heap.size + 1 + 1, 0, none⟩ (.int .i64 x0)).setCell ⟨w.heap.size + 1 + 1, 1, none⟩ (.int .i64 x1)).setCell ⟨w.heap.size + 1 + 1, 2, none⟩ (.int .i64 X2)).setCell ⟨w.heap.size + 1 + 1, 3, none⟩ (.slice A5 N5 C5)).heap.size = w4.heap.size := by simp only [World.size_set]
  generalize ((((w4.setCell ⟨w.heap.size + 1 + 1, 0, none⟩ (.int .i64 x0)).setCell ⟨w.heap.size + 1 + 1, 1, none⟩ (.int .i64 x1)).setCell ⟨w.heap.size + 1 + 1, 2, none⟩ (.int .i64 X2)).setCell ⟨w.heap.size + 1 + 1, 3, none⟩ (.slice A5 N5 C5)) = w5 at *
  have hOwn := OwnN.of_row hO5 (hK5.wide (Nat.le_refl _) (show w4.heap.size ≤ w5.heap.size by omega)) hR5 (Nat.le_refl _)
  obtain ⟨_, _, e9, hca, hcb⟩ := ownsRow_sliceR2 hO5
  cases e9
  exact bodyPost_ret (v := .agg #[.int .i64 x0, .int .i64 x1, .int .i64 X2, .slice A5 N5 C5]) (by simp [results, Try.results30, go_sem, r0, r1, r2, r3]) rfl ⟨A5, _, C5, by rw [hX2.out], ⟨hca, hcb⟩, hOwn.wide (by omega) (Nat.le_refl _), M5⟩

end Go.Proofs.Ytdlafigjkefllaa
namespace Go.Proofs.Ytdlafigjkefllaa
open Go.ChangeShapes Go.WideShapes Go.ChangeAt Go.RowKit
set_option linter.unusedVariables false
theorem own_putN {w : World} {lo n nc : Nat} {e : TypeId} {v : Value} {xs : List Value} (h : w.ownsRow lo e nc v n xs) (p : Addr) (u : Value) (hp : ∀ g, v.ownBlock = some g → g ≠ p.block) : (w.setCell p u).ownsRow lo e nc v n xs :=
  h.kept (row := some p.block) ⟨rfl, rfl, rfl, by rw [World.size_set]; exact Nat.le_refl _, fun k hk hne => Below.heap_setCell w p u k (fun e => hne (by rw [e]))⟩ (by
    cases hv : v.ownBlock with
    | none => exact .inl rfl
    | some g => exact .inr (fun e => hp g hv (by first | exact Option.some.inj e | exact (Option.some.inj e).symm)))
theorem Kids.growP {η α : Type} [Inhabited η] [Inhabited α] {K : Kd η α} {w w' : World} {lo hi n : Nat} {gs : List η} {ts : List α} {v v' : Value} {P : Nat → Prop} (h : Kids K w lo hi (fun g => v.ownBlock = some g ∨ P g) n gs ts) (hg : w.grownBy w' v.ownBlock) (hh : hi ≤ w.heap.size) (hat : v'.ownBlock = v.ownBlock ∨ v'.ownBlock = some w.heap.size) : Kids K w' lo hi (fun g => v'.ownBlock = some g ∨ P g) n gs ts := by
  obtain ⟨l, r, ha, hk⟩ := h
  refine ⟨l, r, ha, fun i hi => ?_⟩
  obtain ⟨h1, h2, h3, h4, h5⟩ := hk i hi
  refine ⟨h1, h2, h3, fun g hg' => ?_, ?_⟩
  · rcases hg' with hg' | hg'
    · rcases hat with e | e
      · exact h4 g (.inl (by rw [← e]; exact hg'))
      · rw [e] at hg'
        injection hg' with hg'
        omega
    · exact h4 g (.inr hg')
  · cases hv : v.ownBlock with
    | none =>
      have m : Mk 0 0 w w' := Mk.of_grown (lo := 0) (hi := 0) hg (fun g e => by rw [hv] at e; cases e)
      exact K.kid_mk h5 m (by omega) (.inr (.inr (Nat.le_refl _)))
    | some g =>
      have m : Mk g (g + 1) w w' := Mk.of_grown hg (fun g' e => by rw [hv] at e; injection e with e; omega)
      have := h4 g (.inl hv)
      exact K.kid_mk h5 m (by omega) (by omega)
theorem appBytes (NB : Nat) (ad9 : Addr) (n9 c9 B9 : Nat) (z9 : List TByte) (wv : World) (h : HasByte wv B9 (some ad9) n9 z9) (hn9 : n9 ≤ 1048576) :
    ∃ A N C w', (Builtin.append_ #[52, 52] 52 #[.slice (some ⟨NB, 0, none⟩) 0 0, .slice (some ad9) n9 c9]).run Try.prog wv = .ok (.slice A N C) w' ∧ ((A = none → C = 0) ∧ (N ≤ C ∧ C ≤ 9223372036854775807)) ∧ OwnByte w' wv.heap.size w'.heap.size A N z9 ∧ Mk0 wv w' := by
  obtain ⟨i0, hi, hz0, hz1, hz2⟩ := info_parts infoU8
  have hu := Try.underlying52
  by_cases h0 : n9 = 0
  · subst h0
    have hr := run_append_room_cells (P := Try.prog) wv 52 52 5 i0 hu hi NB 0 0 0 ad9 0 c9 [] (by simp) (by simp) (by simp) (Nat.le_refl _) (by simp) (by simp)
    exact ⟨some ⟨NB, 0, none⟩, 0, 0, wv, hr, ⟨(fun h => by cases h), Nat.le_refl _, by decide⟩, ⟨h.1, fun h => absurd h (Nat.lt_irrefl _)⟩, Mk.refl _ _ _⟩
  · obtain ⟨b, off, e, hb, hc⟩ := h.2 (by omega)
    injection e with e
    subst e
    obtain ⟨v', w', hr, ho, hg⟩ := run_append_arg_grows (P := Try.prog) wv 52 52 5 i0 (.int .u8 0) 1 1 hu hi hz0 hz1 hz2 rfl (by decide) ⟨NB, 0, none⟩ 0 0 [] rfl (by simp) ⟨b, off, none⟩ n9 c9 (z9.map (Value.int .u8)) (by rw [List.length_map, h.1, Nat.mul_one]) (fun j u hu' => by
      have hj : j < n9 := by
        rcases Nat.lt_or_ge j n9 with h1 | h1
        · exact h1
        · rw [List.getElem?_eq_none (by rw [List.length_map, h.1]; exact h1)] at hu'; cases hu'
      rw [add_plain, hc j (by omega), flat_int, ← hu', List.getElem?_map, List.getElem?_eq_getElem (by rw [h.1]; exact hj), List.getD_eq_getElem?_getD, List.getElem?_eq_getElem (by rw [h.1]; exact hj)]
      rfl) (by omega) (by unfold maxLen; omega) (by omega)
    rw [Nat.zero_add, List.nil_append] at ho
    obtain ⟨A, C, rfl, hca, hcb⟩ := ownsRow_sliceR2 ho
    exact ⟨A, n9, C, w', hr, ⟨hca, hcb⟩, (ownsRow_own ho).toR (Nat.le_refl _), (Mk.refl 0 0 wv).appR hg (fun g e => by cases e)⟩
set_option maxRecDepth 100000 in
set_option maxHeartbeats 16000000 in
theorem specFor (x0 x1 x2 : Int) (a : Option Addr) (n c : Nat) (p0 p1 p2 p4 p5 p6 p7 p8 : Int) (a3 : Option Addr) (n3 c3 : Nat) (ad9 : Addr) (n9 c9 : Nat) (w : World) :
    Calls Try.prog 59 #[.agg #[.int .i64 x0, .int .i64 x1, .int .i64 x2, .slice a n c], .agg #[.int .i64 p0, .int .i64 p1, .int .i64 p2, .slice a3 n3 c3, .int .i64 p4, .int .i64 p5, .int .i64 p6, .int .i64 p7, .int .i64 p8, .slice (some ad9) n9 c9]] w fun e w' => e = .returned (.bool (forB x0 x1 p0 p1 p2)) ∧ Mk0 w w' := by
  have M0 : Mk0 w ((w.alloc (Obj.cells #[Value.int .i64 x0, Value.int .i64 x1, Value.int .i64 x2, Value.slice a n c] 59)).alloc (Obj.cells #[Value.int .i64 p0, Value.int .i64 p1, Value.int .i64 p2, Value.slice a3 n3 c3, Value.int .i64 p4, Value.int .i64 p5, Value.int .i64 p6, Value.int .i64 p7, Value.int .i64 p8, Value.slice (some ad9) n9 c9] 66)) := ((Mk.alloc w (Obj.cells #[Value.int .i64 x0, Value.int .i64 x1, Value.int .i64 x2, Value.slice a n c] 59)).new (Obj.cells #[Value.int .i64 p0, Value.int .i64 p1, Value.int .i64 p2, Value.slice a3 n3 c3, Value.int .i64 p4, Value.int .i64 p5, Value.int .i64 p6, Value.int .i64 p7, Value.int .i64 p8, Value.slice (some ad9) n9 c9] 66))
  have k0 : ((w.alloc (Obj.cells #[Value.int .i64 x0, Value.int .i64 x1, Value.int .i64 x2, Value.slice a n c] 59)).alloc (Obj.cells #[Value.int .i64 p0, Value.int .i64 p1, Value.int .i64 p2, Value.slice a3 n3 c3, Value.int .i64 p4, Value.int .i64 p5, Value.int .i64 p6, Value.int .i64 p7, Value.int .i64 p8, Value.slice (some ad9) n9 c9] 66)).cell? ⟨w.heap.size, 0, none⟩ = some (.int .i64 x0) := by simp [go_sem]
  have k1 : ((w.alloc (Obj.cells #[Value.int .i64 x0, Value.int .i64 x1, Value.int .i64 x2, Value.slice a n c] 59)).alloc (Obj.cells #[Value.int .i64 p0, Value.int .i64 p1, Value.int .i64 p2, Value.slice a3 n3 c3, Value.int .i64 p4, Value.int .i64 p5, Value.int .i64 p6, Value.int .i64 p7, Value.int .i64 p8, Value.slice (some ad9) n9 c9] 66)).cell? ⟨w.heap.size, 1, none⟩ = some (.int .i64 x1) := by simp [go_sem]
  have k2 : ((w.alloc (Obj.cells #[Value.int .i64 x0, Value.int .i64 x1, Value.int .i64 x2, Value.slice a n c] 59)).alloc (Obj.cells #[Value.int .i64 p0, Value.int .i64 p1, Value.int .i64 p2, Value.slice a3 n3 c3, Value.int .i64 p4, Value.int .i64 p5, Value.int .i64 p6, Value.int .i64 p7, Value.int .i64 p8, Value.slice (some ad9) n9 c9] 66)).cell? ⟨w.heap.size, 2, none⟩ = some (.int .i64 x2) := by simp [go_sem]
  have k3 : ((w.alloc (Obj.cells #[Value.int .i64 x0, Value.int .i64 x1, Value.int .i64 x2, Value.slice a n c] 59)).alloc (Obj.cells #[Value.int .i64 p0, Value.int .i64 p1, Value.int .i64 p2, Value.slice a3 n3 c3, Value.int .i64 p4, Value.int .i64 p5, Value.int .i64 p6, Value.int .i64 p7, Value.int .i64 p8, Value.slice (some ad9) n9 c9] 66)).cell? ⟨w.heap.size, 3, none⟩ = some (.slice a n c) := by simp [go_sem]
  have u0 : ((w.alloc (Obj.cells #[Value.int .i64 x0, Value.int .i64 x1, Value.int .i64 x2, Value.slice a n c] 59)).alloc (Obj.cells #[Value.int .i64 p0, Value.int .i64 p1, Value.int .i64 p2, Value.slice a3 n3 c3, Value.int .i64 p4, Value.int .i64 p5, Value.int .i64 p6, Value.int .i64 p7, Value.int .i64 p8, Value.slice (some ad9) n9 c9] 66)).cell? ⟨w.heap.size + 1, 0, none⟩ = some (.int .i64 p0) := by simp [go_sem]
  have u1 : ((w.alloc (Obj.cells #[Value.int .i64 x0, Value.int .i64 x1, Value.int .i64 x2, Value.slice a n c] 59)).alloc (Obj.cells #[Value.int .i64 p0, Value.int .i64 p1, Value.int .i64 p2, Value.slice a3 n3 c3, Value.int .i64 p4, Value.int .i64 p5, Value.int .i64 p6, Value.int .i64 p7, Value.int .i64 p8, Value.slice (some ad9) n9 c9] 66)).cell? ⟨w.heap.size + 1, 1, none⟩ = some (.int .i64 p1) := by simp [go_sem]
  have u2 : ((w.alloc (Obj.cells #[Value.int .i64 x0, Value.int .i64 x1, Value.int .i64 x2, Value.slice a n c] 59)).alloc (Obj.cells #[Value.int .i64 p0, Value.int .i64 p1, Value.int .i64 p2, Value.slice a3 n3 c3, Value.int .i64 p4, Value.int .i64 p5, Value.int .i64 p6, Value.int .i64 p7, Value.int .i64 p8, Value.slice (some ad9) n9 c9] 66)).cell? ⟨w.heap.size + 1, 2, none⟩ = some (.int .i64 p2) := by simp [go_sem]
  have u3 : ((w.alloc (Obj.cells #[Value.int .i64 x0, Value.int .i64 x1, Value.int .i64 x2, Value.slice a n c] 59)).alloc (Obj.cells #[Value.int .i64 p0, Value.int .i64 p1, Value.int .i64 p2, Value.slice a3 n3 c3, Value.int .i64 p4, Value.int .i64 p5, Value.int .i64 p6, Value.int .i64 p7, Value.int .i64 p8, Value.slice (some ad9) n9 c9] 66)).cell? ⟨w.heap.size + 1, 3, none⟩ = some (.slice a3 n3 c3) := by simp [go_sem]
  have u4 : ((w.alloc (Obj.cells #[Value.int .i64 x0, Value.int .i64 x1, Value.int .i64 x2, Value.slice a n c] 59)).alloc (Obj.cells #[Value.int .i64 p0, Value.int .i64 p1, Value.int .i64 p2, Value.slice a3 n3 c3, Value.int .i64 p4, Value.int .i64 p5, Value.int .i64 p6, Value.int .i64 p7, Value.int .i64 p8, Value.slice (some ad9) n9 c9] 66)).cell? ⟨w.heap.size + 1, 4, none⟩ = some (.int .i64 p4) := by simp [go_sem]
  have u5 : ((w.alloc (Obj.cells #[Value.int .i64 x0, Value.int .i64 x1, Value.int .i64 x2, Value.slice a n c] 59)).alloc (Obj.cells #[Value.int .i64 p0, Value.int .i64 p1, Value.int .i64 p2, Value.slice a3 n3 c3, Value.int .i64 p4, Value.int .i64 p5, Value.int .i64 p6, Value.int .i64 p7, Value.int .i64 p8, Value.slice (some ad9) n9 c9] 66)).cell? ⟨w.heap.size + 1, 5, none⟩ = some (.int .i64 p5) := by simp [go_sem]
  have u6 : ((w.alloc (Obj.cells #[Value.int .i64 x0, Value.int .i64 x1, Value.int .i64 x2, Value.slice a n c] 59)).alloc (Obj.cells #[Value.int .i64 p0, Value.int .i64 p1, Value.int .i64 p2, Value.slice a3 n3 c3, Value.int .i64 p4, Value.int .i64 p5, Value.int .i64 p6, Value.int .i64 p7, Value.int .i64 p8, Value.slice (some ad9) n9 c9] 66)).cell? ⟨w.heap.size + 1, 6, none⟩ = some (.int .i64 p6) := by simp [go_sem]
  have u7 : ((w.alloc (Obj.cells #[Value.int .i64 x0, Value.int .i64 x1, Value.int .i64 x2, Value.slice a n c] 59)).alloc (Obj.cells #[Value.int .i64 p0, Value.int .i64 p1, Value.int .i64 p2, Value.slice a3 n3 c3, Value.int .i64 p4, Value.int .i64 p5, Value.int .i64 p6, Value.int .i64 p7, Value.int .i64 p8, Value.slice (some ad9) n9 c9] 66)).cell? ⟨w.heap.size + 1, 7, none⟩ = some (.int .i64 p7) := by simp [go_sem]
  have u8 : ((w.alloc (Obj.cells #[Value.int .i64 x0, Value.int .i64 x1, Value.int .i64 x2, Value.slice a n c] 59)).alloc (Obj.cells #[Value.int .i64 p0, Value.int .i64 p1, Value.int .i64 p2, Value.slice a3 n3 c3, Value.int .i64 p4, Value.int .i64 p5, Value.int .i64 p6, Value.int .i64 p7, Value.int .i64 p8, Value.slice (some ad9) n9 c9] 66)).cell? ⟨w.heap.size + 1, 8, none⟩ = some (.int .i64 p8) := by simp [go_sem]
  have u9 : ((w.alloc (Obj.cells #[Value.int .i64 x0, Value.int .i64 x1, Value.int .i64 x2, Value.slice a n c] 59)).alloc (Obj.cells #[Value.int .i64 p0, Value.int .i64 p1, Value.int .i64 p2, Value.slice a3 n3 c3, Value.int .i64 p4, Value.int .i64 p5, Value.int .i64 p6, Value.int .i64 p7, Value.int .i64 p8, Value.slice (some ad9) n9 c9] 66)).cell? ⟨w.heap.size + 1, 9, none⟩ = some (.slice (some ad9) n9 c9) := by simp [go_sem]
  have hs0 : ((w.alloc (Obj.cells #[Value.int .i64 x0, Value.int .i64 x1, Value.int .i64 x2, Value.slice a n c] 59)).alloc (Obj.cells #[Value.int .i64 p0, Value.int .i64 p1, Value.int .i64 p2, Value.slice a3 n3 c3, Value.int .i64 p4, Value.int .i64 p5, Value.int .i64 p6, Value.int .i64 p7, Value.int .i64 p8, Value.slice (some ad9) n9 c9] 66)).heap.size = w.heap.size + 1 + 1 := by simp only [World.size_alloc]
  cases e0 : (p0 == 1)
  · have E0 := Lib.hid e0
    go_enter Try.func59, Try.ntmps59
    go_wp2_with fail
    go_ret
    exact ⟨retB (by unfold forB; rw [E0.out]; rfl), M0⟩
  · have E0 := Lib.hid e0
    cases e1 : (p1 == x1)
    · have E1 := Lib.hid e1
      go_enter Try.func59, Try.ntmps59
      go_wp2_with fail
      go_ret
      exact ⟨retB (by unfold forB; rw [E0.out, E1.out]; rfl), M0⟩
    · have E1 := Lib.hid e1
      cases e2 : (p2 == x0)
      · have E2 := Lib.hid e2
        go_enter Try.func59, Try.ntmps59
        go_wp2_with fail
        go_ret
        exact ⟨retB (by unfold forB; rw [E0.out, E1.out, E2.out]; rfl), M0⟩
      · have E2 := Lib.hid e2
        go_enter Try.func59, Try.ntmps59
        go_wp2_with fail
        go_ret
        exact ⟨retB (by unfold forB; rw [E0.out, E1.out, E2.out]; rfl), M0⟩

set_option maxRecDepth 100000 in
set_option maxHeartbeats 40000000 in
theorem specHData (x0 x1 x2 : Int) (a : Option Addr) (n c B : Nat) (zs : List TMessage) (p0 p1 p2 p4 p5 p6 p7 p8 : Int) (a3 : Option Addr) (n3 c3 : Nat) (ad9 : Addr) (n9 c9 B9 : Nat) (z9 : List TByte) (w : World) (h : HasMessage w B a n zs) (hB : B ≤ w.heap.size) (hs : szMessage zs n ≤ 1048576) (h9 : HasByte w B9 (some ad9) n9 z9) (hB9 : B9 ≤ w.heap.size) (hn9 : n9 ≤ 1048576) (hx2 : -9223372036854775808 ≤ x2) :
    Calls Try.prog 27 #[.agg #[.int .i64 x0, .int .i64 x1, .int .i64 x2, .slice a n c], .agg #[.int .i64 p0, .int .i64 p1, .int .i64 p2, .slice a3 n3 c3, .int .i64 p4, .int .i64 p5, .int .i64 p6, .int .i64 p7, .int .i64 p8, .slice (some ad9) n9 c9]] w (OutInb x0 x1 (nextV (hdB x0 x1 x2 p0 p1 p2 p8) x2) (moreL (hdB x0 x1 x2 p0 p1 p2 p8) zs ⟨z9⟩) w) := by
  have M0 : Mk0 w (((w.alloc (Obj.cells #[Value.int .i64 x0, Value.int .i64 x1, Value.int .i64 x2, Value.slice a n c] 59)).alloc (Obj.cells #[Value.int .i64 p0, Value.int .i64 p1, Value.int .i64 p2, Value.slice a3 n3 c3, Value.int .i64 p4, Value.int .i64 p5, Value.int .i64 p6, Value.int .i64 p7, Value.int .i64 p8, Value.slice (some ad9) n9 c9] 66)).alloc (Obj.cells #[Value.int .i64 0, Value.int .i64 0, Value.int .i64 0, Value.slice none 0 0] 59)) := (((Mk.alloc w (Obj.cells #[Value.int .i64 x0, Value.int .i64 x1, Value.int .i64 x2, Value.slice a n c] 59)).new (Obj.cells #[Value.int .i64 p0, Value.int .i64 p1, Value.int .i64 p2, Value.slice a3 n3 c3, Value.int .i64 p4, Value.int .i64 p5, Value.int .i64 p6, Value.int .i64 p7, Value.int .i64 p8, Value.slice (some ad9) n9 c9] 66)).new (Obj.cells #[Value.int .i64 0, Value.int .i64 0, Value.int .i64 0, Value.slice none 0 0] 59))
  have k0 : (((w.alloc (Obj.cells #[Value.int .i64 x0, Value.int .i64 x1, Value.int .i64 x2, Value.slice a n c] 59)).alloc (Obj.cells #[Value.int .i64 p0, Value.int .i64 p1, Value.int .i64 p2, Value.slice a3 n3 c3, Value.int .i64 p4, Value.int .i64 p5, Value.int .i64 p6, Value.int .i64 p7, Value.int .i64 p8, Value.slice (some ad9) n9 c9] 66)).alloc (Obj.cells #[Value.int .i64 0, Value.int .i64 0, Value.int .i64 0, Value.slice none 0 0] 59)).cell? ⟨w.heap.size, 0, none⟩ = some (.int .i64 x0) := by simp [go_sem]
  have k1 : (((w.alloc (Obj.cells #[Value.int .i64 x0, Value.int .i64 x1, Value.int .i64 x2, Value.slice a n c] 59)).alloc (Obj.cells #[Value.int .i64 p0, Value.int .i64 p1, Value.int .i64 p2, Value.slice a3 n3 c3, Value.int .i64 p4, Value.int .i64 p5, Value.int .i64 p6, Value.int .i64 p7, Value.int .i64 p8, Value.slice (some ad9) n9 c9] 66)).alloc (Obj.cells #[Value.int .i64 0, Value.int .i64 0, Value.int .i64 0, Value.slice none 0 0] 59)).cell? ⟨w.heap.size, 1, none⟩ = some (.int .i64 x1) := by simp [go_sem]
  have k2 : (((w.alloc (Obj.cells #[Value.int .i64 x0, Value.int .i64 x1, Value.int .i64 x2, Value.slice a n c] 59)).alloc (Obj.cells #[Value.int .i64 p0, Value.int .i64 p1, Value.int .i64 p2, Value.slice a3 n3 c3, Value.int .i64 p4, Value.int .i64 p5, Value.int .i64 p6, Value.int .i64 p7, Value.int .i64 p8, Value.slice (some ad9) n9 c9] 66)).alloc (Obj.cells #[Value.int .i64 0, Value.int .i64 0, Value.int .i64 0, Value.slice none 0 0] 59)).cell? ⟨w.heap.size, 2, none⟩ = some (.int .i64 x2) := by simp [go_sem]
  have k3 : (((w.alloc (Obj.cells #[Value.int .i64 x0, Value.int .i64 x1, Value.int .i64 x2, Value.slice a n c] 59)).alloc (Obj.cells #[Value.int .i64 p0, Value.int .i64 p1, Value.int .i64 p2, Value.slice a3 n3 c3, Value.int .i64 p4, Value.int .i64 p5, Value.int .i64 p6, Value.int .i64 p7, Value.int .i64 p8, Value.slice (some ad9) n9 c9] 66)).alloc (Obj.cells #[Value.int .i64 0, Value.int .i64 0, Value.int .i64 0, Value.slice none 0 0] 59)).cell? ⟨w.heap.size, 3, none⟩ = some (.slice a n c) := by simp [go_sem]
  have pk0 : (((w.alloc (Obj.cells #[Value.int .i64 x0, Value.int .i64 x1, Value.int .i64 x2, Value.slice a n c] 59)).alloc (Obj.cells #[Value.int .i64 p0, Value.int .i64 p1, Value.int .i64 p2, Value.slice a3 n3 c3, Value.int .i64 p4, Value.int .i64 p5, Value.int .i64 p6, Value.int .i64 p7, Value.int .i64 p8, Value.slice (some ad9) n9 c9] 66)).alloc (Obj.cells #[Value.int .i64 0, Value.int .i64 0, Value.int .i64 0, Value.slice none 0 0] 59)).cell? ⟨w.heap.size + 1, 0, none⟩ = some (.int .i64 p0) := by simp [go_sem]
  have pk1 : (((w.alloc (Obj.cells #[Value.int .i64 x0, Value.int .i64 x1, Value.int .i64 x2, Value.slice a n c] 59)).alloc (Obj.cells #[Value.int .i64 p0, Value.int .i64 p1, Value.int .i64 p2, Value.slice a3 n3 c3, Value.int .i64 p4, Value.int .i64 p5, Value.int .i64 p6, Value.int .i64 p7, Value.int .i64 p8, Value.slice (some ad9) n9 c9] 66)).alloc (Obj.cells #[Value.int .i64 0, Value.int .i64 0, Value.int .i64 0, Value.slice none 0 0] 59)).cell? ⟨w.heap.size + 1, 1, none⟩ = some (.int .i64 p1) := by simp [go_sem]
  have pk2 : (((w.alloc (Obj.cells #[Value.int .i64 x0, Value.int .i64 x1, Value.int .i64 x2, Value.slice a n c] 59)).alloc (Obj.cells #[Value.int .i64 p0, Value.int .i64 p1, Value.int .i64 p2, Value.slice a3 n3 c3, Value.int .i64 p4, Value.int .i64 p5, Value.int .i64 p6, Value.int .i64 p7, Value.int .i64 p8, Value.slice (some ad9) n9 c9] 66)).alloc (Obj.cells #[Value.int .i64 0, Value.int .i64 0, Value.int .i64 0, Value.slice none 0 0] 59)).cell? ⟨w.heap.size + 1, 2, none⟩ = some (.int .i64 p2) := by simp [go_sem]
  have pk3 : (((w.alloc (Obj.cells #[Value.int .i64 x0, Value.int .i64 x1, Value.int .i64 x2, Value.slice a n c] 59)).alloc (Obj.cells #[Value.int .i64 p0, Value.int .i64 p1, Value.int .i64 p2, Value.slice a3 n3 c3, Value.int .i64 p4, Value.int .i64 p5, Value.int .i64 p6, Value.int .i64 p7, Value.int .i64 p8, Value.slice (some ad9) n9 c9] 66)).alloc (Obj.cells #[Value.int .i64 0, Value.int .i64 0, Value.int .i64 0, Value.slice none 0 0] 59)).cell? ⟨w.heap.size + 1, 3, none⟩ = some (.slice a3 n3 c3) := by simp [go_sem]
  have pk4 : (((w.alloc (Obj.cells #[Value.int .i64 x0, Value.int .i64 x1, Value.int .i64 x2, Value.slice a n c] 59)).alloc (Obj.cells #[Value.int .i64 p0, Value.int .i64 p1, Value.int .i64 p2, Value.slice a3 n3 c3, Value.int .i64 p4, Value.int .i64 p5, Value.int .i64 p6, Value.int .i64 p7, Value.int .i64 p8, Value.slice (some ad9) n9 c9] 66)).alloc (Obj.cells #[Value.int .i64 0, Value.int .i64 0, Value.int .i64 0, Value.slice none 0 0] 59)).cell? ⟨w.heap.size + 1, 4, none⟩ = some (.int .i64 p4) := by simp [go_sem]
  have pk5 : (((w.alloc (Obj.cells #[Value.int .i64 x0, Value.int .i64 x1, Value.int .i64 x2, Value.slice a n c] 59)).alloc (Obj.cells #[Value.int .i64 p0, Value.int .i64 p1, Value.int .i64 p2, Value.slice a3 n3 c3, Value.int .i64 p4, Value.int .i64 p5, Value.int .i64 p6, Value.int .i64 p7, Value.int .i64 p8, Value.slice (some ad9) n9 c9] 66)).alloc (Obj.cells #[Value.int .i64 0, Value.int .i64 0, Value.int .i64 0, Value.slice none 0 0] 59)).cell? ⟨w.heap.size + 1, 5, none⟩ = some (.int .i64 p5) := by simp [go_sem]
  have pk6 : (((w.alloc (Obj.cells #[Value.int .i64 x0, Value.int .i64 x1, Value.int .i64 x2, Value.slice a n c] 59)).alloc (Obj.cells #[Value.int .i64 p0, Value.int .i64 p1, Value.int .i64 p2, Value.slice a3 n3 c3, Value.int .i64 p4, Value.int .i64 p5, Value.int .i64 p6, Value.int .i64 p7, Value.int .i64 p8, Value.slice (some ad9) n9 c9] 66)).alloc (Obj.cells #[Value.int .i64 0, Value.int .i64 0, Value.int .i64 0, Value.slice none 0 0] 59)).cell? ⟨w.heap.size + 1, 6, none⟩ = some (.int .i64 p6) := by simp [go_sem]
  have pk7 : (((w.alloc (Obj.cells #[Value.int .i64 x0, Value.int .i64 x1, Value.int .i64 x2, Value.slice a n c] 59)).alloc (Obj.cells #[Value.int .i64 p0, Value.int .i64 p1, Value.int .i64 p2, Value.slice a3 n3 c3, Value.int .i64 p4, Value.int .i64 p5, Value.int .i64 p6, Value.int .i64 p7, Value.int .i64 p8, Value.slice (some ad9) n9 c9] 66)).alloc (Obj.cells #[Value.int .i64 0, Value.int .i64 0, Value.int .i64 0, Value.slice none 0 0] 59)).cell? ⟨w.heap.size + 1, 7, none⟩ = some (.int .i64 p7) := by simp [go_sem]
  have pk8 : (((w.alloc (Obj.cells #[Value.int .i64 x0, Value.int .i64 x1, Value.int .i64 x2, Value.slice a n c] 59)).alloc (Obj.cells #[Value.int .i64 p0, Value.int .i64 p1, Value.int .i64 p2, Value.slice a3 n3 c3, Value.int .i64 p4, Value.int .i64 p5, Value.int .i64 p6, Value.int .i64 p7, Value.int .i64 p8, Value.slice (some ad9) n9 c9] 66)).alloc (Obj.cells #[Value.int .i64 0, Value.int .i64 0, Value.int .i64 0, Value.slice none 0 0] 59)).cell? ⟨w.heap.size + 1, 8, none⟩ = some (.int .i64 p8) := by simp [go_sem]
  have pk9 : (((w.alloc (Obj.cells #[Value.int .i64 x0, Value.int .i64 x1, Value.int .i64 x2, Value.slice a n c] 59)).alloc (Obj.cells #[Value.int .i64 p0, Value.int .i64 p1, Value.int .i64 p2, Value.slice a3 n3 c3, Value.int .i64 p4, Value.int .i64 p5, Value.int .i64 p6, Value.int .i64 p7, Value.int .i64 p8, Value.slice (some ad9) n9 c9] 66)).alloc (Obj.cells #[Value.int .i64 0, Value.int .i64 0, Value.int .i64 0, Value.slice none 0 0] 59)).cell? ⟨w.heap.size + 1, 9, none⟩ = some (.slice (some ad9) n9 c9) := by simp [go_sem]
  have r0 : (((w.alloc (Obj.cells #[Value.int .i64 x0, Value.int .i64 x1, Value.int .i64 x2, Value.slice a n c] 59)).alloc (Obj.cells #[Value.int .i64 p0, Value.int .i64 p1, Value.int .i64 p2, Value.slice a3 n3 c3, Value.int .i64 p4, Value.int .i64 p5, Value.int .i64 p6, Value.int .i64 p7, Value.int .i64 p8, Value.slice (some ad9) n9 c9] 66)).alloc (Obj.cells #[Value.int .i64 0, Value.int .i64 0, Value.int .i64 0, Value.slice none 0 0] 59)).cell? ⟨w.heap.size + 1 + 1, 0, none⟩ = some (.int .i64 0) := by simp [go_sem]
  have r1 : (((w.alloc (Obj.cells #[Value.int .i64 x0, Value.int .i64 x1, Value.int .i64 x2, Value.slice a n c] 59)).alloc (Obj.cells #[Value.int .i64 p0, Value.int .i64 p1, Value.int .i64 p2, Value.slice a3 n3 c3, Value.int .i64 p4, Value.int .i64 p5, Value.int .i64 p6, Value.int .i64 p7, Value.int .i64 p8, Value.slice (some ad9) n9 c9] 66)).alloc (Obj.cells #[Value.int .i64 0, Value.int .i64 0, Value.int .i64 0, Value.slice none 0 0] 59)).cell? ⟨w.heap.size + 1 + 1, 1, none⟩ = some (.int .i64 0) := by simp [go_sem]
  have r2 : (((w.alloc (Obj.cells #[Value.int .i64 x0, Value.int .i64 x1, Value.int .i64 x2, Value.slice a n c] 59)).alloc (Obj.cells #[Value.int .i64 p0, Value.int .i64 p1, Value.int .i64 p2, Value.slice a3 n3 c3, Value.int .i64 p4, Value.int .i64 p5, Value.int .i64 p6, Value.int .i64 p7, Value.int .i64 p8, Value.slice (some ad9) n9 c9] 66)).alloc (Obj.cells #[Value.int .i64 0, Value.int .i64 0, Value.int .i64 0, Value.slice none 0 0] 59)).cell? ⟨w.heap.size + 1 + 1, 2, none⟩ = some (.int .i64 0) := by simp [go_sem]
  have r3 : (((w.alloc (Obj.cells #[Value.int .i64 x0, Value.int .i64 x1, Value.int .i64 x2, Value.slice a n c] 59)).alloc (Obj.cells #[Value.int .i64 p0, Value.int .i64 p1, Value.int .i64 p2, Value.slice a3 n3 c3, Value.int .i64 p4, Value.int .i64 p5, Value.int .i64 p6, Value.int .i64 p7, Value.int .i64 p8, Value.slice (some ad9) n9 c9] 66)).alloc (Obj.cells #[Value.int .i64 0, Value.int .i64 0, Value.int .i64 0, Value.slice none 0 0] 59)).cell? ⟨w.heap.size + 1 + 1, 3, none⟩ = some (.slice none 0 0) := by simp [go_sem]
  have hs0 : (((w.alloc (Obj.cells #[Value.int .i64 x0, Value.int .i64 x1, Value.int .i64 x2, Value.slice a n c] 59)).alloc (Obj.cells #[Value.int .i64 p0, Value.int .i64 p1, Value.int .i64 p2, Value.slice a3 n3 c3, Value.int .i64 p4, Value.int .i64 p5, Value.int .i64 p6, Value.int .i64 p7, Value.int .i64 p8, Value.slice (some ad9) n9 c9] 66)).alloc (Obj.cells #[Value.int .i64 0, Value.int .i64 0, Value.int .i64 0, Value.slice none 0 0] 59)).heap.size = w.heap.size + 1 + 1 + 1 := by simp only [World.size_alloc]
  obtain ⟨i0, hi0, hz0, hz1, hz2⟩ := info_parts infoRMessage
  have fR : ∀ q, (((w.alloc (Obj.cells #[Value.int .i64 x0, Value.int .i64 x1, Value.int .i64 x2, Value.slice a n c] 59)).alloc (Obj.cells #[Value.int .i64 p0, Value.int .i64 p1, Value.int .i64 p2, Value.slice a3 n3 c3, Value.int .i64 p4, Value.int .i64 p5, Value.int .i64 p6, Value.int .i64 p7, Value.int .i64 p8, Value.slice (some ad9) n9 c9] 66)).alloc (Obj.cells #[Value.int .i64 0, Value.int .i64 0, Value.int .i64 0, Value.slice none 0 0] 59)).frozen? ⟨w.heap.size + 1 + 1, q, none⟩ = false := fun q => by simp [go_sem]
  have hnn := Nat.le_trans (szMessage_n zs n) hs
  go_enter Try.func27, Try.ntmps27
  go_wp2_with fail
  generalize (((w.alloc (Obj.cells #[Value.int .i64 x0, Value.int .i64 x1, Value.int .i64 x2, Value.slice a n c] 59)).alloc (Obj.cells #[Value.int .i64 p0, Value.int .i64 p1, Value.int .i64 p2, Value.slice a3 n3 c3, Value.int .i64 p4, Value.int .i64 p5, Value.int .i64 p6, Value.int .i64 p7, Value.int .i64 p8, Value.slice (some ad9) n9 c9] 66)).alloc (Obj.cells #[Value.int .i64 0, Value.int .i64 0, Value.int .i64 0, Value.slice none 0 0] 59)) = wb at *
  refine (specCopyIn x0 x1 x2 a n c B zs wb (h.mk M0 hB (.inr (Nat.le_refl _))) (Nat.le_trans hB M0.size) hs).mono ?_
  rintro e w2 ⟨A, N, C, gs, rfl, hO, hg, hR, hK, m2⟩
  replace k0 := m2.cellAt k0
  replace k1 := m2.cellAt k1
  replace k2 := m2.cellAt k2
  replace k3 := m2.cellAt k3
  replace pk0 := m2.cellAt pk0
  replace pk1 := m2.cellAt pk1
  replace pk2 := m2.cellAt pk2
  replace pk3 := m2.cellAt pk3
  replace pk4 := m2.cellAt pk4
  replace pk5 := m2.cellAt pk5
  replace pk6 := m2.cellAt pk6
  replace pk7 := m2.cellAt pk7
  replace pk8 := m2.cellAt pk8
  replace pk9 := m2.cellAt pk9
  replace r0 := m2.cellAt r0
  replace r1 := m2.cellAt r1
  replace r2 := m2.cellAt r2
  replace r3 := m2.cellAt r3
  replace fR : ∀ q, w2.frozen? ⟨w.heap.size + 1 + 1, q, none⟩ = false := fun q => (m2.frozen (b := w.heap.size + 1 + 1) (o := q) (by omega) (.inr (Nat.zero_le _))).trans (fR q)
  have M := M0.trans m2
  have hz2' := m2.size
  have hNn : Hid (N = n) := Lib.hid (hR.symm.trans h.1)
  have MA := Mk.alloc w2 (Obj.cells #[Value.int .i64 x0, Value.int .i64 x1, Value.int .i64 x2, Value.slice A N C] 59)
  have t0 : (w2.alloc (Obj.cells #[Value.int .i64 x0, Value.int .i64 x1, Value.int .i64 x2, Value.slice A N C] 59)).cell? ⟨w2.heap.size, 0, none⟩ = some (.int .i64 x0) := by simp [go_sem]
  have t1 : (w2.alloc (Obj.cells #[Value.int .i64 x0, Value.int .i64 x1, Value.int .i64 x2, Value.slice A N C] 59)).cell? ⟨w2.heap.size, 1, none⟩ = some (.int .i64 x1) := by simp [go_sem]
  have t2 : (w2.alloc (Obj.cells #[Value.int .i64 x0, Value.int .i64 x1, Value.int .i64 x2, Value.slice A N C] 59)).cell? ⟨w2.heap.size, 2, none⟩ = some (.int .i64 x2) := by simp [go_sem]
  have t3 : (w2.alloc (Obj.cells #[Value.int .i64 x0, Value.int .i64 x1, Value.int .i64 x2, Value.slice A N C] 59)).cell? ⟨w2.heap.size, 3, none⟩ = some (.slice A N C) := by simp [go_sem]
  have fT : ∀ q, (w2.alloc (Obj.cells #[Value.int .i64 x0, Value.int .i64 x1, Value.int .i64 x2, Value.slice A N C] 59)).frozen? ⟨w2.heap.size, q, none⟩ = false := fun q => by simp [go_sem]
  replace k0 := MA.cellAt k0
  replace k1 := MA.cellAt k1
  replace k2 := MA.cellAt k2
  replace k3 := MA.cellAt k3
  replace pk0 := MA.cellAt pk0
  replace pk1 := MA.cellAt pk1
  replace pk2 := MA.cellAt pk2
  replace pk3 := MA.cellAt pk3
  replace pk4 := MA.cellAt pk4
  replace pk5 := MA.cellAt pk5
  replace pk6 := MA.cellAt pk6
  replace pk7 := MA.cellAt pk7
  replace pk8 := MA.cellAt pk8
  replace pk9 := MA.cellAt pk9
  replace r0 := MA.cellAt r0
  replace r1 := MA.cellAt r1
  replace r2 := MA.cellAt r2
  replace r3 := MA.cellAt r3
  replace fR : ∀ q, (w2.alloc (Obj.cells #[Value.int .i64 x0, Value.int .i64 x1, Value.int .i64 x2, Value.slice A N C] 59)).frozen? ⟨w.heap.size + 1 + 1, q, none⟩ = false := fun q => (MA.frozen (b := w.heap.size + 1 + 1) (o := q) (by omega) (.inr (Nat.zero_le _))).trans (fR q)
  have hob : ∀ g, (Value.slice A N C).ownBlock = some g → wb.heap.size ≤ g ∧ g < w2.heap.size := fun g hg => hO.lt g hg
  replace hO := own_keptR hO MA
  replace hK := Lib.hid ((hK.avoid (q' := fun g => (Value.slice A N C).ownBlock = some g ∨ g = w2.heap.size) (fun b hb => hb.elim .inl (fun e => .inr (.inr (by omega))))).mk MA (Nat.le_refl _) (.inr (.inr (Nat.le_refl _))))
  replace M := M.trans MA
  have hsA : (w2.alloc (Obj.cells #[Value.int .i64 x0, Value.int .i64 x1, Value.int .i64 x2, Value.slice A N C] 59)).heap.size = w2.heap.size + 1 := World.size_alloc _ _
  obtain ⟨QB, hQB⟩ : ∃ Q, Q = w2.heap.size := ⟨_, rfl⟩
  obtain ⟨FB, hFB⟩ : ∃ b, b = forB x0 x1 p0 p1 p2 := ⟨_, rfl⟩
  have HDB : Hid (hdB x0 x1 x2 p0 p1 p2 p8 = (FB && ((p8 == x2) && decide (x2 < 20)))) := Lib.hid (by rw [hFB]; rfl)
  have KF := specFor x0 x1 x2 a n c p0 p1 p2 p4 p5 p6 p7 p8 a3 n3 c3 ad9 n9 c9 (w2.alloc (Obj.cells #[Value.int .i64 x0, Value.int .i64 x1, Value.int .i64 x2, Value.slice A N C] 59))
  rw [← hFB] at KF
  clear hFB
  cases FB
  · have HN := Lib.hid (show hdB x0 x1 x2 p0 p1 p2 p8 = false by rw [HDB.out]; rfl)
    go_wp2_with fail
    refine KF.mono ?_
    rintro e w3 ⟨rfl, m3⟩
    replace k0 := m3.cellAt k0
    replace k1 := m3.cellAt k1
    replace k2 := m3.cellAt k2
    replace k3 := m3.cellAt k3
    replace pk0 := m3.cellAt pk0
    replace pk1 := m3.cellAt pk1
    replace pk2 := m3.cellAt pk2
    replace pk3 := m3.cellAt pk3
    replace pk4 := m3.cellAt pk4
    replace pk5 := m3.cellAt pk5
    replace pk6 := m3.cellAt pk6
    replace pk7 := m3.cellAt pk7
    replace pk8 := m3.cellAt pk8
    replace pk9 := m3.cellAt pk9
    replace r0 := m3.cellAt r0
    replace r1 := m3.cellAt r1
    replace r2 := m3.cellAt r2
    replace r3 := m3.cellAt r3
    replace t0 := m3.cellAt t0
    replace t1 := m3.cellAt t1
    replace t2 := m3.cellAt t2
    replace t3 := m3.cellAt t3
    replace fT : ∀ q, w3.frozen? ⟨w2.heap.size, q, none⟩ = false := fun q => (m3.frozen (b := w2.heap.size) (o := q) (by omega) (.inr (Nat.zero_le _))).trans (fT q)
    replace fR : ∀ q, w3.frozen? ⟨w.heap.size + 1 + 1, q, none⟩ = false := fun q => (m3.frozen (b := w.heap.size + 1 + 1) (o := q) (by omega) (.inr (Nat.zero_le _))).trans (fR q)
    replace hO := own_keptR hO m3
    replace hK := Lib.hid (hK.out.mk m3 (by omega) (.inr (.inr (Nat.le_refl _))))
    replace M := M.trans m3
    have hz3 := m3.size
    clear KF m3
    go_wp2_with fail
    replace r0 := World.cell?_setCell_same _ _ (.int .i64 x0) r0
    replace r1 := cell_set r1 ⟨w.heap.size + 1 + 1, 0, none⟩ (.int .i64 x0) (.inr (by simp))
    replace r2 := cell_set r2 ⟨w.heap.size + 1 + 1, 0, none⟩ (.int .i64 x0) (.inr (by simp))
    replace r3 := cell_set r3 ⟨w.heap.size + 1 + 1, 0, none⟩ (.int .i64 x0) (.inr (by simp))
    replace hO := own_put hO ⟨w.heap.size + 1 + 1, 0, none⟩ (.int .i64 x0) (show w.heap.size + 1 + 1 < wb.heap.size by omega)
    replace hK := Lib.hid (hK.out.set ⟨w.heap.size + 1 + 1, 0, none⟩ (.int .i64 x0) (.inr (.inl (show w.heap.size + 1 + 1 < wb.heap.size by omega))))
    replace M := M.put ⟨w.heap.size + 1 + 1, 0, none⟩ (.int .i64 x0) (show w.heap.size ≤ w.heap.size + 1 + 1 by omega)
    replace r0 := cell_set r0 ⟨w.heap.size + 1 + 1, 1, none⟩ (.int .i64 x1) (.inr (by simp))
    replace r1 := World.cell?_setCell_same _ _ (.int .i64 x1) r1
    replace r2 := cell_set r2 ⟨w.heap.size + 1 + 1, 1, none⟩ (.int .i64 x1) (.inr (by simp))
    replace r3 := cell_set r3 ⟨w.heap.size + 1 + 1, 1, none⟩ (.int .i64 x1) (.inr (by simp))
    replace hO := own_put hO ⟨w.heap.size + 1 + 1, 1, none⟩ (.int .i64 x1) (show w.heap.size + 1 + 1 < wb.heap.size by omega)
    replace hK := Lib.hid (hK.out.set ⟨w.heap.size + 1 + 1, 1, none⟩ (.int .i64 x1) (.inr (.inl (show w.heap.size + 1 + 1 < wb.heap.size by omega))))
    replace M := M.put ⟨w.heap.size + 1 + 1, 1, none⟩ (.int .i64 x1) (show w.heap.size ≤ w.heap.size + 1 + 1 by omega)
    replace r0 := cell_set r0 ⟨w.heap.size + 1 + 1, 2, none⟩ (.int .i64 x2) (.inr (by simp))
    replace r1 := cell_set r1 ⟨w.heap.size + 1 + 1, 2, none⟩ (.int .i64 x2) (.inr (by simp))
    replace r2 := World.cell?_setCell_same _ _ (.int .i64 x2) r2
    replace r3 := cell_set r3 ⟨w.heap.size + 1 + 1, 2, none⟩ (.int .i64 x2) (.inr (by simp))
    replace hO := own_put hO ⟨w.heap.size + 1 + 1, 2, none⟩ (.int .i64 x2) (show w.heap.size + 1 + 1 < wb.heap.size by omega)
    replace hK := Lib.hid (hK.out.set ⟨w.heap.size + 1 + 1, 2, none⟩ (.int .i64 x2) (.inr (.inl (show w.heap.size + 1 + 1 < wb.heap.size by omega))))
    replace M := M.put ⟨w.heap.size + 1 + 1, 2, none⟩ (.int .i64 x2) (show w.heap.size ≤ w.heap.size + 1 + 1 by omega)
    replace r0 := cell_set r0 ⟨w.heap.size + 1 + 1, 3, none⟩ (.slice A N C) (.inr (by simp))
    replace r1 := cell_set r1 ⟨w.heap.size + 1 + 1, 3, none⟩ (.slice A N C) (.inr (by simp))
    replace r2 := cell_set r2 ⟨w.heap.size + 1 + 1, 3, none⟩ (.slice A N C) (.inr (by simp))
    replace r3 := World.cell?_setCell_same _ _ (.slice A N C) r3
    replace hO := own_put hO ⟨w.heap.size + 1 + 1, 3, none⟩ (.slice A N C) (show w.heap.size + 1 + 1 < wb.heap.size by omega)
    replace hK := Lib.hid (hK.out.set ⟨w.heap.size + 1 + 1, 3, none⟩ (.slice A N C) (.inr (.inl (show w.heap.size + 1 + 1 < wb.heap.size by omega))))
    replace M := M.put ⟨w.heap.size + 1 + 1, 3, none⟩ (.slice A N C) (show w.heap.size ≤ w.heap.size + 1 + 1 by omega)
    have hz9 : ((((w3.setCell ⟨w.heap.size + 1 + 1, 0, none⟩ (.int .i64 x0)).setCell ⟨w.heap.size + 1 + 1, 1, none⟩ (.int .i64 x1)).setCell ⟨w.heap.size + 1 + 1, 2, none⟩ (.int .i64 x2)).setCell ⟨w.heap.size + 1 + 1, 3, none⟩ (.slice A N C)).heap.size = w3.heap.size := by simp only [World.size_set]
    generalize ((((w3.setCell ⟨w.heap.size + 1 + 1, 0, none⟩ (.int .i64 x0)).setCell ⟨w.heap.size + 1 + 1, 1, none⟩ (.int .i64 x1)).setCell ⟨w.heap.size + 1 + 1, 2, none⟩ (.int .i64 x2)).setCell ⟨w.heap.size + 1 + 1, 3, none⟩ (.slice A N C)) = w9 at *
    have hOwn := OwnN.of_row (hi := w9.heap.size) hO ((hK.out.avoid (q' := fun g => (Value.slice A N C).ownBlock = some g) (fun b hb => .inl (.inl hb))).wide (Nat.le_refl _) (show w2.heap.size ≤ w9.heap.size by omega)) hR (Nat.le_refl _)
    obtain ⟨_, _, e9, hca, hcb⟩ := ownsRow_sliceR2 hO
    cases e9
    exact bodyPost_ret (v := .agg #[.int .i64 x0, .int .i64 x1, .int .i64 x2, .slice A N C]) (by simp [results, Try.results27, go_sem, r0, r1, r2, r3]) rfl ⟨_, _, _, by rw [HN.out]; rfl, ⟨hca, hcb⟩, by rw [HN.out]; exact hOwn.wide (by omega) (Nat.le_refl _), M⟩
  · cases e8 : (p8 == x2)
    · have E8 := Lib.hid e8
      have HN := Lib.hid (show hdB x0 x1 x2 p0 p1 p2 p8 = false by rw [HDB.out, E8.out]; rfl)
      go_wp2_with fail
      refine KF.mono ?_
      rintro e w3 ⟨rfl, m3⟩
      replace k0 := m3.cellAt k0
      replace k1 := m3.cellAt k1
      replace k2 := m3.cellAt k2
      replace k3 := m3.cellAt k3
      replace pk0 := m3.cellAt pk0
      replace pk1 := m3.cellAt pk1
      replace pk2 := m3.cellAt pk2
      replace pk3 := m3.cellAt pk3
      replace pk4 := m3.cellAt pk4
      replace pk5 := m3.cellAt pk5
      replace pk6 := m3.cellAt pk6
      replace pk7 := m3.cellAt pk7
      replace pk8 := m3.cellAt pk8
      replace pk9 := m3.cellAt pk9
      replace r0 := m3.cellAt r0
      replace r1 := m3.cellAt r1
      replace r2 := m3.cellAt r2
      replace r3 := m3.cellAt r3
      replace t0 := m3.cellAt t0
      replace t1 := m3.cellAt t1
      replace t2 := m3.cellAt t2
      replace t3 := m3.cellAt t3
      replace fT : ∀ q, w3.frozen? ⟨w2.heap.size, q, none⟩ = false := fun q => (m3.frozen (b := w2.heap.size) (o := q) (by omega) (.inr (Nat.zero_le _))).trans (fT q)
      replace fR : ∀ q, w3.frozen? ⟨w.heap.size + 1 + 1, q, none⟩ = false := fun q => (m3.frozen (b := w.heap.size + 1 + 1) (o := q) (by omega) (.inr (Nat.zero_le _))).trans (fR q)
      replace hO := own_keptR hO m3
      replace hK := Lib.hid (hK.out.mk m3 (by omega) (.inr (.inr (Nat.le_refl _))))
      replace M := M.trans m3
      have hz3 := m3.size
      clear KF m3
      go_wp2_with fail
      replace r0 := World.cell?_setCell_same _ _ (.int .i64 x0) r0
      replace r1 := cell_set r1 ⟨w.heap.size + 1 + 1, 0, none⟩ (.int .i64 x0) (.inr (by simp))
      replace r2 := cell_set r2 ⟨w.heap.size + 1 + 1, 0, none⟩ (.int .i64 x0) (.inr (by simp))
      replace r3 := cell_set r3 ⟨w.heap.size + 1 + 1, 0, none⟩ (.int .i64 x0) (.inr (by simp))
      replace hO := own_put hO ⟨w.heap.size + 1 + 1, 0, none⟩ (.int .i64 x0) (show w.heap.size + 1 + 1 < wb.heap.size by omega)
      replace hK := Lib.hid (hK.out.set ⟨w.heap.size + 1 + 1, 0, none⟩ (.int .i64 x0) (.inr (.inl (show w.heap.size + 1 + 1 < wb.heap.size by omega))))
      replace M := M.put ⟨w.heap.size + 1 + 1, 0, none⟩ (.int .i64 x0) (show w.heap.size ≤ w.heap.size + 1 + 1 by omega)
      replace r0 := cell_set r0 ⟨w.heap.size + 1 + 1, 1, none⟩ (.int .i64 x1) (.inr (by simp))
      replace r1 := World.cell?_setCell_same _ _ (.int .i64 x1) r1
      replace r2 := cell_set r2 ⟨w.heap.size + 1 + 1, 1, none⟩ (.int .i64 x1) (.inr (by simp))
      replace r3 := cell_set r3 ⟨w.heap.size + 1 + 1, 1, none⟩ (.int .i64 x1) (.inr (by simp))
      replace hO := own_put hO ⟨w.heap.size + 1 + 1, 1, none⟩ (.int .i64 x1) (show w.heap.size + 1 + 1 < wb.heap.size by omega)
      replace hK := Lib.hid (hK.out.set ⟨w.heap.size + 1 + 1, 1, none⟩ (.int .i64 x1) (.inr (.inl (show w.heap.size + 1 + 1 < wb.heap.size by omega))))
      replace M := M.put ⟨w.heap.size + 1 + 1, 1, none⟩ (.int .i64 x1) (show w.heap.size ≤ w.heap.size + 1 + 1 by omega)
      replace r0 := cell_set r0 ⟨w.heap.size + 1 + 1, 2, none⟩ (.int .i64 x2) (.inr (by simp))
      replace r1 := cell_set r1 ⟨w.heap.size + 1 + 1, 2, none⟩ (.int .i64 x2) (.inr (by simp))
      replace r2 := World.cell?_setCell_same _ _ (.int .i64 x2) r2
      replace r3 := cell_set r3 ⟨w.heap.size + 1 + 1, 2, none⟩ (.int .i64 x2) (.inr (by simp))
      replace hO := own_put hO ⟨w.heap.size + 1 + 1, 2, none⟩ (.int .i64 x2) (show w.heap.size + 1 + 1 < wb.heap.size by omega)
      replace hK := Lib.hid (hK.out.set ⟨w.heap.size + 1 + 1, 2, none⟩ (.int .i64 x2) (.inr (.inl (show w.heap.size + 1 + 1 < wb.heap.size by omega))))
      replace M := M.put ⟨w.heap.size + 1 + 1, 2, none⟩ (.int .i64 x2) (show w.heap.size ≤ w.heap.size + 1 + 1 by omega)
      replace r0 := cell_set r0 ⟨w.heap.size + 1 + 1, 3, none⟩ (.slice A N C) (.inr (by simp))
      replace r1 := cell_set r1 ⟨w.heap.size + 1 + 1, 3, none⟩ (.slice A N C) (.inr (by simp))
      replace r2 := cell_set r2 ⟨w.heap.size + 1 + 1, 3, none⟩ (.slice A N C) (.inr (by simp))
      replace r3 := World.cell?_setCell_same _ _ (.slice A N C) r3
      replace hO := own_put hO ⟨w.heap.size + 1 + 1, 3, none⟩ (.slice A N C) (show w.heap.size + 1 + 1 < wb.heap.size by omega)
      replace hK := Lib.hid (hK.out.set ⟨w.heap.size + 1 + 1, 3, none⟩ (.slice A N C) (.inr (.inl (show w.heap.size + 1 + 1 < wb.heap.size by omega))))
      replace M := M.put ⟨w.heap.size + 1 + 1, 3, none⟩ (.slice A N C) (show w.heap.size ≤ w.heap.size + 1 + 1 by omega)
      have hz9 : ((((w3.setCell ⟨w.heap.size + 1 + 1, 0, none⟩ (.int .i64 x0)).setCell ⟨w.heap.size + 1 + 1, 1, none⟩ (.int .i64 x1)).setCell ⟨w.heap.size + 1 + 1, 2, none⟩ (.int .i64 x2)).setCell ⟨w.heap.size + 1 + 1, 3, none⟩ (.slice A N C)).heap.size = w3.heap.size := by simp only [World.size_set]
      generalize ((((w3.setCell ⟨w.heap.size + 1 + 1, 0, none⟩ (.int .i64 x0)).setCell ⟨w.heap.size + 1 + 1, 1, none⟩ (.int .i64 x1)).setCell ⟨w.heap.size + 1 + 1, 2, none⟩ (.int .i64 x2)).setCell ⟨w.heap.size + 1 + 1, 3, none⟩ (.slice A N C)) = w9 at *
      have hOwn := OwnN.of_row (hi := w9.heap.size) hO ((hK.out.avoid (q' := fun g => (Value.slice A N C).ownBlock = some g) (fun b hb => .inl (.inl hb))).wide (Nat.le_refl _) (show w2.heap.size ≤ w9.heap.size by omega)) hR (Nat.le_refl _)
      obtain ⟨_, _, e9, hca, hcb⟩ := ownsRow_sliceR2 hO
      cases e9
      exact bodyPost_ret (v := .agg #[.int .i64 x0, .int .i64 x1, .int .i64 x2, .slice A N C]) (by simp [results, Try.results27, go_sem, r0, r1, r2, r3]) rfl ⟨_, _, _, by rw [HN.out]; rfl, ⟨hca, hcb⟩, by rw [HN.out]; exact hOwn.wide (by omega) (Nat.le_refl _), M⟩
    · by_cases e20 : x2 < 20
      · have g20 : decide (x2 < 20) = true := decide_eq_true e20
        have HN := Lib.hid (show hdB x0 x1 x2 p0 p1 p2 p8 = true by rw [HDB.out, g20, e8]; rfl)
        go_wp2_with fail
        refine KF.mono ?_
        rintro e w3 ⟨rfl, m3⟩
        replace k0 := m3.cellAt k0
        replace k1 := m3.cellAt k1
        replace k2 := m3.cellAt k2
        replace k3 := m3.cellAt k3
        replace pk0 := m3.cellAt pk0
        replace pk1 := m3.cellAt pk1
        replace pk2 := m3.cellAt pk2
        replace pk3 := m3.cellAt pk3
        replace pk4 := m3.cellAt pk4
        replace pk5 := m3.cellAt pk5
        replace pk6 := m3.cellAt pk6
        replace pk7 := m3.cellAt pk7
        replace pk8 := m3.cellAt pk8
        replace pk9 := m3.cellAt pk9
        replace r0 := m3.cellAt r0
        replace r1 := m3.cellAt r1
        replace r2 := m3.cellAt r2
        replace r3 := m3.cellAt r3
        replace t0 := m3.cellAt t0
        replace t1 := m3.cellAt t1
        replace t2 := m3.cellAt t2
        replace t3 := m3.cellAt t3
        replace fT : ∀ q, w3.frozen? ⟨w2.heap.size, q, none⟩ = false := fun q => (m3.frozen (b := w2.heap.size) (o := q) (by omega) (.inr (Nat.zero_le _))).trans (fT q)
        replace fR : ∀ q, w3.frozen? ⟨w.heap.size + 1 + 1, q, none⟩ = false := fun q => (m3.frozen (b := w.heap.size + 1 + 1) (o := q) (by omega) (.inr (Nat.zero_le _))).trans (fR q)
        replace hO := own_keptR hO m3
        replace hK := Lib.hid (hK.out.mk m3 (by omega) (.inr (.inr (Nat.le_refl _))))
        replace M := M.trans m3
        have hz3 := m3.size
        clear KF m3
        go_wp2_with fail
        have hp9 := h9.mk M hB9 (.inr (Nat.le_refl _))
        have hB9b := Nat.le_trans hB9 M.size
        refine wp_region_fh (fun (g : Bxs) w' => (Mk0 w3 w' ∧ w'.cell? ⟨w.heap.size, 0, none⟩ = some (.int .i64 x0) ∧ w'.cell? ⟨w.heap.size, 1, none⟩ = some (.int .i64 x1) ∧ w'.cell? ⟨w.heap.size, 2, none⟩ = some (.int .i64 x2) ∧ w'.cell? ⟨w.heap.size, 3, none⟩ = some (.slice a n c) ∧ w'.cell? ⟨w.heap.size + 1, 0, none⟩ = some (.int .i64 p0) ∧ w'.cell? ⟨w.heap.size + 1, 1, none⟩ = some (.int .i64 p1) ∧ w'.cell? ⟨w.heap.size + 1, 2, none⟩ = some (.int .i64 p2) ∧ w'.cell? ⟨w.heap.size + 1, 3, none⟩ = some (.slice a3 n3 c3) ∧ w'.cell? ⟨w.heap.size + 1, 4, none⟩ = some (.int .i64 p4) ∧ w'.cell? ⟨w.heap.size + 1, 5, none⟩ = some (.int .i64 p5) ∧ w'.cell? ⟨w.heap.size + 1, 6, none⟩ = some (.int .i64 p6) ∧ w'.cell? ⟨w.heap.size + 1, 7, none⟩ = some (.int .i64 p7) ∧ w'.cell? ⟨w.heap.size + 1, 8, none⟩ = some (.int .i64 p8) ∧ w'.cell? ⟨w.heap.size + 1, 9, none⟩ = some (.slice (some ad9) n9 c9) ∧ w'.cell? ⟨w.heap.size + 1 + 1, 0, none⟩ = some (.int .i64 0) ∧ w'.cell? ⟨w.heap.size + 1 + 1, 1, none⟩ = some (.int .i64 0) ∧ w'.cell? ⟨w.heap.size + 1 + 1, 2, none⟩ = some (.int .i64 0) ∧ w'.cell? ⟨w.heap.size + 1 + 1, 3, none⟩ = some (.slice none 0 0) ∧ w'.cell? ⟨w2.heap.size, 0, none⟩ = some (.int .i64 x0) ∧ w'.cell? ⟨w2.heap.size, 1, none⟩ = some (.int .i64 x1) ∧ w'.cell? ⟨w2.heap.size, 2, none⟩ = some (.int .i64 x2) ∧ w'.cell? ⟨w2.heap.size, 3, none⟩ = some (.slice A N C)) ∧ BxS w3.heap.size g w') (fhF [fun g x wv => (x 0) = .pointer (some ⟨w2.heap.size, 3, none⟩), fun g x wv => (x 1) = .slice A N C, fun g x wv => ∃ NB, (x 2) = .slice (some ⟨NB, 0, none⟩) 0 0, fun g x wv => (x 3) = .pointer (some ⟨w.heap.size + 1, 9, none⟩), fun g x wv => (x 4) = .slice (some ad9) n9 c9, fun g x wv => ∃ (A : Option Addr) (N C lo hi : Nat), (x 5) = .slice A N C ∧ OwnByte wv lo hi A N z9 ∧ ((A = none → C = 0) ∧ (N ≤ C ∧ C ≤ 9223372036854775807)) ∧ w3.heap.size ≤ lo ∧ lo ≤ hi ∧ hi ≤ wv.heap.size, fun g x wv => ∃ (A : Option Addr) (N C lo hi : Nat), (x 6) = .agg #[.slice A N C] ∧ OwnByte wv lo hi A N z9 ∧ ((A = none → C = 0) ∧ (N ≤ C ∧ C ≤ 9223372036854775807)) ∧ w3.heap.size ≤ lo ∧ lo ≤ hi ∧ hi ≤ wv.heap.size, fun g x wv => ∃ (A : Option Addr) (N C lo hi NB : Nat), (x 7) = .slice (some ⟨NB, 0, none⟩) 1 1 ∧ HasR 1 HMessage.cell wv wv.heap.size (some ⟨NB, 0, none⟩) 1 [(⟨A, N, C⟩ : HMessage)] ∧ OwnByte wv lo hi A N z9 ∧ ((A = none → C = 0) ∧ (N ≤ C ∧ C ≤ 9223372036854775807)) ∧ w3.heap.size ≤ lo ∧ lo ≤ hi ∧ hi ≤ wv.heap.size]) BxX (fun _ _ => False) (spL [[0], [1], [2], [3], [4], [5], [6], [7]]) 11 8 (by kernel_rfl) (by kernel_rfl) (by kernel_rfl) (by decide) (by decide) (by kernel_rfl) (fun h => absurd h (by decide)) (fhM_mono ⟨fun g g' v w w' h x => h, fun g g' v w w' h x => h, fun g g' v w w' h x => h, fun g g' v w w' h x => h, fun g g' v w w' h x => h, fun g g' v w w' h x => (by obtain ⟨A, N, C, lo, hi, e, o, cc, d1, d2, d3⟩ := h; exact ⟨A, N, C, lo, hi, e, o.mk x.far d3 (.inr (.inr (Nat.le_refl _))), cc, d1, d2, Nat.le_trans d3 x.far.size⟩), fun g g' v w w' h x => (by obtain ⟨A, N, C, lo, hi, e, o, cc, d1, d2, d3⟩ := h; exact ⟨A, N, C, lo, hi, e, o.mk x.far d3 (.inr (.inr (Nat.le_refl _))), cc, d1, d2, Nat.le_trans d3 x.far.size⟩), fun g g' v w w' h x => (by obtain ⟨A, N, C, lo, hi, NB, e, hr, o, cc, d1, d2, d3⟩ := h; exact ⟨A, N, C, lo, hi, NB, e, (hr.mk x.far (Nat.le_refl _) (.inr (Nat.le_refl _))).mono x.far.size, o.mk x.far d3 (.inr (.inr (Nat.le_refl _))), cc, d1, d2, Nat.le_trans d3 x.far.size⟩), trivial⟩) ⟨⟨Mk.drew1 _, k0, k1, k2, k3, pk0, pk1, pk2, pk3, pk4, pk5, pk6, pk7, pk8, pk9, r0, r1, r2, r3, t0, t1, t2, t3⟩, BxS.none_ _ _⟩ ?_
        change WkH _ _ _ _ _ _ _ 11 8 8 0 _
        refine WkH.value (m := 7) (k := 0) (by decide) rfl rfl (of_decide_eq_true (by rfl)) rfl (fun g wv hS hF => ?_) (fun v0 => ?_)
        · obtain ⟨⟨s0, s1, s2, s3, s4, s5, s6, s7, s8, s9, s10, s11, s12, s13, s14, s15, s16, s17, s18, s19, s20, s21, s22⟩, hB2⟩ := hS
          exact ⟨.pointer (some ⟨w2.heap.size, 3, none⟩), wv, g, (by go_simp; try with_reducible rfl), ⟨⟨s0, s1, s2, s3, s4, s5, s6, s7, s8, s9, s10, s11, s12, s13, s14, s15, s16, s17, s18, s19, s20, s21, s22⟩, hB2⟩, BxX.same (Mk.refl _ _ _), rfl⟩
        try simp only [Act.put, List.getElem_toArray, List.getElem_cons_zero, List.setIfInBounds_toArray, List.set_cons_zero, List.set_cons_succ]
        refine WkH.value (m := 6) (k := 1) (by decide) rfl rfl (of_decide_eq_true (by rfl)) rfl (fun g wv hS hF => ?_) (fun v1 => ?_)
        · obtain ⟨⟨s0, s1, s2, s3, s4, s5, s6, s7, s8, s9, s10, s11, s12, s13, s14, s15, s16, s17, s18, s19, s20, s21, s22⟩, hB2⟩ := hS
          have f0 : v0 = .pointer (some ⟨w2.heap.size, 3, none⟩) := hF 0 (by rfl)
          obtain rfl := f0
          exact ⟨.slice A N C, wv, g, (by go_simp; try with_reducible rfl), ⟨⟨s0, s1, s2, s3, s4, s5, s6, s7, s8, s9, s10, s11, s12, s13, s14, s15, s16, s17, s18, s19, s20, s21, s22⟩, hB2⟩, BxX.same (Mk.refl _ _ _), rfl⟩
        try simp only [Act.put, List.getElem_toArray, List.getElem_cons_succ, List.getElem_cons_zero, List.setIfInBounds_toArray, List.set_cons_zero, List.set_cons_succ]
        refine WkH.value (m := 5) (k := 2) (by decide) rfl rfl (of_decide_eq_true (by rfl)) rfl (fun g wv hS hF => ?_) (fun v2 => ?_)
        · obtain ⟨⟨s0, s1, s2, s3, s4, s5, s6, s7, s8, s9, s10, s11, s12, s13, s14, s15, s16, s17, s18, s19, s20, s21, s22⟩, hB2⟩ := hS
          have mm := Mk.alloc wv (Obj.cells #[] 5)
          exact ⟨.slice (some ⟨wv.heap.size, 0, none⟩) 0 0, (wv.alloc (Obj.cells #[] 5)), g, (by go_simp; try with_reducible rfl), ⟨⟨s0.trans mm, mm.cellAt s1, mm.cellAt s2, mm.cellAt s3, mm.cellAt s4, mm.cellAt s5, mm.cellAt s6, mm.cellAt s7, mm.cellAt s8, mm.cellAt s9, mm.cellAt s10, mm.cellAt s11, mm.cellAt s12, mm.cellAt s13, mm.cellAt s14, mm.cellAt s15, mm.cellAt s16, mm.cellAt s17, mm.cellAt s18, mm.cellAt s19, mm.cellAt s20, mm.cellAt s21, mm.cellAt s22⟩, hB2.mk0 mm⟩, BxX.same mm, ⟨wv.heap.size, rfl⟩⟩
        try simp only [Act.put, List.getElem_toArray, List.getElem_cons_succ, List.getElem_cons_zero, List.setIfInBounds_toArray, List.set_cons_zero, List.set_cons_succ]
        refine WkH.value (m := 4) (k := 3) (by decide) rfl rfl (of_decide_eq_true (by rfl)) rfl (fun g wv hS hF => ?_) (fun v3 => ?_)
        · obtain ⟨⟨s0, s1, s2, s3, s4, s5, s6, s7, s8, s9, s10, s11, s12, s13, s14, s15, s16, s17, s18, s19, s20, s21, s22⟩, hB2⟩ := hS
          exact ⟨.pointer (some ⟨w.heap.size + 1, 9, none⟩), wv, g, (by go_simp; try with_reducible rfl), ⟨⟨s0, s1, s2, s3, s4, s5, s6, s7, s8, s9, s10, s11, s12, s13, s14, s15, s16, s17, s18, s19, s20, s21, s22⟩, hB2⟩, BxX.same (Mk.refl _ _ _), rfl⟩
        try simp only [Act.put, List.getElem_toArray, List.getElem_cons_succ, List.getElem_cons_zero, List.setIfInBounds_toArray, List.set_cons_zero, List.set_cons_succ]
        refine WkH.value (m := 3) (k := 4) (by decide) rfl rfl (of_decide_eq_true (by rfl)) rfl (fun g wv hS hF => ?_) (fun v4 => ?_)
        · obtain ⟨⟨s0, s1, s2, s3, s4, s5, s6, s7, s8, s9, s10, s11, s12, s13, s14, s15, s16, s17, s18, s19, s20, s21, s22⟩, hB2⟩ := hS
          have f3 : v3 = .pointer (some ⟨w.heap.size + 1, 9, none⟩) := hF 3 (by rfl)
          obtain rfl := f3
          exact ⟨.slice (some ad9) n9 c9, wv, g, (by go_simp; try with_reducible rfl), ⟨⟨s0, s1, s2, s3, s4, s5, s6, s7, s8, s9, s10, s11, s12, s13, s14, s15, s16, s17, s18, s19, s20, s21, s22⟩, hB2⟩, BxX.same (Mk.refl _ _ _), rfl⟩
        try simp only [Act.put, List.getElem_toArray, List.getElem_cons_succ, List.getElem_cons_zero, List.setIfInBounds_toArray, List.set_cons_zero, List.set_cons_succ]
        refine WkH.value (m := 2) (k := 5) (by decide) rfl rfl (of_decide_eq_true (by rfl)) rfl (fun g wv hS hF => ?_) (fun v5 => ?_)
        · obtain ⟨⟨s0, s1, s2, s3, s4, s5, s6, s7, s8, s9, s10, s11, s12, s13, s14, s15, s16, s17, s18, s19, s20, s21, s22⟩, hB2⟩ := hS
          have f2 : ∃ NB, v2 = .slice (some ⟨NB, 0, none⟩) 0 0 := hF 2 (by rfl)
          obtain ⟨NB, rfl⟩ := f2
          have f4 : v4 = .slice (some ad9) n9 c9 := hF 4 (by rfl)
          obtain rfl := f4
          obtain ⟨A, N, C, w', hrun, cc, o, mm⟩ := appBytes NB ad9 n9 c9 B9 z9 wv (hp9.mk s0 hB9b (.inr (Nat.le_refl _))) hn9
          exact ⟨.slice A N C, w', g, (by first | (simp [execOp, resolve, invoke, builtin, hrun, Result.andThen, Act.eval]; done) | (show (((Builtin.append_ #[52, 52] 52 #[.slice (some ⟨NB, 0, none⟩) 0 0, .slice (some ad9) n9 c9]).run Try.prog wv).andThen _) = _; rw [hrun]; rfl) | (simp [execOp, resolve, invoke, builtin, hrun, Result.andThen, Act.eval])), ⟨⟨s0.trans mm, mm.cellAt s1, mm.cellAt s2, mm.cellAt s3, mm.cellAt s4, mm.cellAt s5, mm.cellAt s6, mm.cellAt s7, mm.cellAt s8, mm.cellAt s9, mm.cellAt s10, mm.cellAt s11, mm.cellAt s12, mm.cellAt s13, mm.cellAt s14, mm.cellAt s15, mm.cellAt s16, mm.cellAt s17, mm.cellAt s18, mm.cellAt s19, mm.cellAt s20, mm.cellAt s21, mm.cellAt s22⟩, hB2.mk0 mm⟩, BxX.same mm, ⟨A, N, C, wv.heap.size, w'.heap.size, rfl, o, cc, s0.size, mm.size, Nat.le_refl _⟩⟩
        try simp only [Act.put, List.getElem_toArray, List.getElem_cons_succ, List.getElem_cons_zero, List.setIfInBounds_toArray, List.set_cons_zero, List.set_cons_succ]
        refine WkH.value (m := 1) (k := 6) (by decide) rfl rfl (of_decide_eq_true (by rfl)) rfl (fun g wv hS hF => ?_) (fun v6 => ?_)
        · obtain ⟨⟨s0, s1, s2, s3, s4, s5, s6, s7, s8, s9, s10, s11, s12, s13, s14, s15, s16, s17, s18, s19, s20, s21, s22⟩, hB2⟩ := hS
          have f5 : ∃ (A : Option Addr) (N C lo hi : Nat), v5 = .slice A N C ∧ OwnByte wv lo hi A N z9 ∧ ((A = none → C = 0) ∧ (N ≤ C ∧ C ≤ 9223372036854775807)) ∧ w3.heap.size ≤ lo ∧ lo ≤ hi ∧ hi ≤ wv.heap.size := hF 5 (by rfl)
          obtain ⟨A, N, C, lo, hi, rfl, o, cc, d1, d2, d3⟩ := f5
          exact ⟨.agg #[.slice A N C], wv, g, (by go_simp; try with_reducible rfl), ⟨⟨s0, s1, s2, s3, s4, s5, s6, s7, s8, s9, s10, s11, s12, s13, s14, s15, s16, s17, s18, s19, s20, s21, s22⟩, hB2⟩, BxX.same (Mk.refl _ _ _), ⟨A, N, C, lo, hi, rfl, o, cc, d1, d2, d3⟩⟩
        try simp only [Act.put, List.getElem_toArray, List.getElem_cons_succ, List.getElem_cons_zero, List.setIfInBounds_toArray, List.set_cons_zero, List.set_cons_succ]
        refine WkH.value (m := 0) (k := 7) (by decide) rfl rfl (of_decide_eq_true (by rfl)) rfl (fun g wv hS hF => ?_) (fun v7 => ?_)
        · obtain ⟨⟨s0, s1, s2, s3, s4, s5, s6, s7, s8, s9, s10, s11, s12, s13, s14, s15, s16, s17, s18, s19, s20, s21, s22⟩, hB2⟩ := hS
          have f6 : ∃ (A : Option Addr) (N C lo hi : Nat), v6 = .agg #[.slice A N C] ∧ OwnByte wv lo hi A N z9 ∧ ((A = none → C = 0) ∧ (N ≤ C ∧ C ≤ 9223372036854775807)) ∧ w3.heap.size ≤ lo ∧ lo ≤ hi ∧ hi ≤ wv.heap.size := hF 6 (by rfl)
          obtain ⟨A, N, C, lo, hi, rfl, o, cc, d1, d2, d3⟩ := f6
          have mm := Mk.alloc wv (Obj.cells #[.slice A N C] 103)
          exact ⟨.slice (some ⟨wv.heap.size, 0, none⟩) 1 1, (wv.alloc (Obj.cells #[.slice A N C] 103)), g, (by go_simp; try with_reducible rfl), ⟨⟨s0.trans mm, mm.cellAt s1, mm.cellAt s2, mm.cellAt s3, mm.cellAt s4, mm.cellAt s5, mm.cellAt s6, mm.cellAt s7, mm.cellAt s8, mm.cellAt s9, mm.cellAt s10, mm.cellAt s11, mm.cellAt s12, mm.cellAt s13, mm.cellAt s14, mm.cellAt s15, mm.cellAt s16, mm.cellAt s17, mm.cellAt s18, mm.cellAt s19, mm.cellAt s20, mm.cellAt s21, mm.cellAt s22⟩, hB2.mk0 mm⟩, BxX.same mm, ⟨A, N, C, lo, hi, wv.heap.size, rfl, hasR_new (cell := HMessage.cell) (nc := 1) (by decide) wv 103 (⟨A, N, C⟩ : HMessage) #[.slice A N C] (fun j hj => by match j, hj with | 0, _ => rfl), o.mk mm d3 (.inr (.inr (Nat.le_refl _))), cc, d1, d2, Nat.le_trans d3 mm.size⟩⟩
        try simp only [Act.put, List.getElem_toArray, List.getElem_cons_succ, List.getElem_cons_zero, List.setIfInBounds_toArray, List.set_cons_zero, List.set_cons_succ]
        refine WkH.done fun gE wE hE hF => ?_
        clear k0 k1 k2 k3 pk0 pk1 pk2 pk3 pk4 pk5 pk6 pk7 pk8 pk9 r0 r1 r2 r3 t0 t1 t2 t3
        obtain ⟨⟨mE, k0, k1, k2, k3, pk0, pk1, pk2, pk3, pk4, pk5, pk6, pk7, pk8, pk9, r0, r1, r2, r3, t0, t1, t2, t3⟩, hBE⟩ := hE
        change wpAny _ _ _ _ 3 _ _ _
        have f7 : ∃ (A : Option Addr) (N C lo hi NB : Nat), v7 = .slice (some ⟨NB, 0, none⟩) 1 1 ∧ HasR 1 HMessage.cell wE wE.heap.size (some ⟨NB, 0, none⟩) 1 [(⟨A, N, C⟩ : HMessage)] ∧ OwnByte wE lo hi A N z9 ∧ ((A = none → C = 0) ∧ (N ≤ C ∧ C ≤ 9223372036854775807)) ∧ w3.heap.size ≤ lo ∧ lo ≤ hi ∧ hi ≤ wE.heap.size := hF 7 (by decide)
        obtain ⟨A8, N8, C8, lo8, hi8, NB, rfl, hh, o8, cc8, d1, d2, d3⟩ := f7
        have f1 : v1 = .slice A N C := hF 1 (by decide)
        obtain rfl := f1
        clear hF hBE
        have hO2 := own_keptR hO mE
        have hK2 := Lib.hid ((hK.out.mk mE (by omega) (.inr (.inr (Nat.le_refl _)))).snoc (g := (⟨A8, N8, C8⟩ : HMessage)) (x := (⟨z9⟩ : TMessage)) hg hR (show wb.heap.size ≤ lo8 by omega) d2 ⟨o8, cc8.2.1, cc8.2.2, cc8.1⟩ (show w2.heap.size ≤ lo8 by omega) (fun b hb => .inl (hb.elim (fun hb => by have := (hob b hb).2; omega) (fun e => by omega))))
        replace fT : ∀ q, wE.frozen? ⟨w2.heap.size, q, none⟩ = false := fun q => (mE.frozen (b := w2.heap.size) (o := q) (by omega) (.inr (Nat.zero_le _))).trans (fT q)
        replace fR : ∀ q, wE.frozen? ⟨w.heap.size + 1 + 1, q, none⟩ = false := fun q => (mE.frozen (b := w.heap.size + 1 + 1) (o := q) (by omega) (.inr (Nat.zero_le _))).trans (fR q)
        have M2 := M.trans mE
        have zE := mE.size
        clear hO hK
        refine wpAny_ready (rs := [8]) (by kernel_rfl) (by simp) ?_
        refine (AllReady.cons rfl (fun KK hKK => ?_) AllReady.nil)
        refine step_appR (nc := 1) (cell := HMessage.cell) (by decide) oneMessage (by rfl) (.tmp 24) (.tmp 30) 57 (by rfl) wb.heap.size 103 i0 _ Try.underlying57 hi0 hz0 rfl hz1 (by rw [hz2]; decide) _ gs N (by rfl) hO2 (some ⟨NB, 0, none⟩) 1 1 [(⟨A8, N8, C8⟩ : HMessage)] (by rfl) (fun h => by cases h) hh (by have := hNn.out; omega) (by omega) ?_
        intro vv u4 hown4 hgr hat
        refine hKK _ _ ?_
        clear hKK KK
        try simp only [Act.put, List.getElem_toArray, List.getElem_cons_succ, List.getElem_cons_zero, List.setIfInBounds_toArray, List.set_cons_zero, List.set_cons_succ]
        have hne : ∀ (Q : Nat), (Q < wb.heap.size ∨ Q = w2.heap.size) → ∀ g, (Value.slice A N C).ownBlock = some g → g ≠ Q := fun Q hQ g e => (by have := hob g e; omega)
        have hne4 : ∀ g, vv.ownBlock = some g → g ≠ w2.heap.size := fun g e => (by rcases hat with h1 | h1; (have := hob g (h1.symm.trans e); omega); (rw [h1] at e; cases e; omega))
        have bk_k0 := World.block_lt_of_cell? _ _ k0
        have bk_pk0 := World.block_lt_of_cell? _ _ pk0
        have bk_r0 := World.block_lt_of_cell? _ _ r0
        have bk_t0 := World.block_lt_of_cell? _ _ t0
        replace k0 := grown_cell k0 hgr (hne _ (.inl (by omega)))
        replace k1 := grown_cell k1 hgr (hne _ (.inl (by omega)))
        replace k2 := grown_cell k2 hgr (hne _ (.inl (by omega)))
        replace k3 := grown_cell k3 hgr (hne _ (.inl (by omega)))
        replace pk0 := grown_cell pk0 hgr (hne _ (.inl (by omega)))
        replace pk1 := grown_cell pk1 hgr (hne _ (.inl (by omega)))
        replace pk2 := grown_cell pk2 hgr (hne _ (.inl (by omega)))
        replace pk3 := grown_cell pk3 hgr (hne _ (.inl (by omega)))
        replace pk4 := grown_cell pk4 hgr (hne _ (.inl (by omega)))
        replace pk5 := grown_cell pk5 hgr (hne _ (.inl (by omega)))
        replace pk6 := grown_cell pk6 hgr (hne _ (.inl (by omega)))
        replace pk7 := grown_cell pk7 hgr (hne _ (.inl (by omega)))
        replace pk8 := grown_cell pk8 hgr (hne _ (.inl (by omega)))
        replace pk9 := grown_cell pk9 hgr (hne _ (.inl (by omega)))
        replace r0 := grown_cell r0 hgr (hne _ (.inl (by omega)))
        replace r1 := grown_cell r1 hgr (hne _ (.inl (by omega)))
        replace r2 := grown_cell r2 hgr (hne _ (.inl (by omega)))
        replace r3 := grown_cell r3 hgr (hne _ (.inl (by omega)))
        replace t0 := grown_cell t0 hgr (hne _ (.inr rfl))
        replace t1 := grown_cell t1 hgr (hne _ (.inr rfl))
        replace t2 := grown_cell t2 hgr (hne _ (.inr rfl))
        replace t3 := grown_cell t3 hgr (hne _ (.inr rfl))
        replace fT := fun q => grown_frz (fT q) (show w2.heap.size < wE.heap.size by omega) hgr (hne _ (.inr rfl))
        replace fR := fun q => grown_frz (fR q) (show w.heap.size + 1 + 1 < wE.heap.size by omega) hgr (hne _ (.inl (by omega)))
        have hK4 := hK2.out.growP hgr d3 hat
        have M4 := M2.appR hgr (fun g e => by have := (hob g e).1; omega)
        have z4 := hgr.size
        obtain ⟨A4, C4, rfl, hca4, hcb4⟩ := ownsRow_sliceR2 hown4
        clear hK2 hat hO2 hh hgr
        refine wpAny_ready (rs := [9]) (by kernel_rfl) (by simp) ?_
        refine (AllReady.cons rfl (fun K hK => ?_) AllReady.nil)
        go_simp
        refine hK _ _ ?_
        clear hK K
        try simp only [Act.put, List.getElem_toArray, List.getElem_cons_succ, List.getElem_cons_zero, List.setIfInBounds_toArray, List.set_cons_zero, List.set_cons_succ]
        refine wpAny_ready (rs := [10]) (by kernel_rfl) (by simp) ?_
        refine (AllReady.cons rfl (fun K hK => ?_) AllReady.nil)
        go_simp
        refine hK _ _ ?_
        clear hK K
        try simp only [Act.put, List.getElem_toArray, List.getElem_cons_succ, List.getElem_cons_zero, List.setIfInBounds_toArray, List.set_cons_zero, List.set_cons_succ]
        refine wpAny_doneN (by kernel_rfl) ?_
        refine ‹∀ (a : Act) (w : World), _ → _› _ _ ?_
        replace k0 := cell_set k0 ⟨w2.heap.size, 3, none⟩ (.slice A4 (N + 1) C4) (.inl (show w2.heap.size ≠ w.heap.size by omega))
        replace k1 := cell_set k1 ⟨w2.heap.size, 3, none⟩ (.slice A4 (N + 1) C4) (.inl (show w2.heap.size ≠ w.heap.size by omega))
        replace k2 := cell_set k2 ⟨w2.heap.size, 3, none⟩ (.slice A4 (N + 1) C4) (.inl (show w2.heap.size ≠ w.heap.size by omega))
        replace k3 := cell_set k3 ⟨w2.heap.size, 3, none⟩ (.slice A4 (N + 1) C4) (.inl (show w2.heap.size ≠ w.heap.size by omega))
        replace pk0 := cell_set pk0 ⟨w2.heap.size, 3, none⟩ (.slice A4 (N + 1) C4) (.inl (show w2.heap.size ≠ w.heap.size + 1 by omega))
        replace pk1 := cell_set pk1 ⟨w2.heap.size, 3, none⟩ (.slice A4 (N + 1) C4) (.inl (show w2.heap.size ≠ w.heap.size + 1 by omega))
        replace pk2 := cell_set pk2 ⟨w2.heap.size, 3, none⟩ (.slice A4 (N + 1) C4) (.inl (show w2.heap.size ≠ w.heap.size + 1 by omega))
        replace pk3 := cell_set pk3 ⟨w2.heap.size, 3, none⟩ (.slice A4 (N + 1) C4) (.inl (show w2.heap.size ≠ w.heap.size + 1 by omega))
        replace pk4 := cell_set pk4 ⟨w2.heap.size, 3, none⟩ (.slice A4 (N + 1) C4) (.inl (show w2.heap.size ≠ w.heap.size + 1 by omega))
        replace pk5 := cell_set pk5 ⟨w2.heap.size, 3, none⟩ (.slice A4 (N + 1) C4) (.inl (show w2.heap.size ≠ w.heap.size + 1 by omega))
        replace pk6 := cell_set pk6 ⟨w2.heap.size, 3, none⟩ (.slice A4 (N + 1) C4) (.inl (show w2.heap.size ≠ w.heap.size + 1 by omega))
        replace pk7 := cell_set pk7 ⟨w2.heap.size, 3, none⟩ (.slice A4 (N + 1) C4) (.inl (show w2.heap.size ≠ w.heap.size + 1 by omega))
        replace pk8 := cell_set pk8 ⟨w2.heap.size, 3, none⟩ (.slice A4 (N + 1) C4) (.inl (show w2.heap.size ≠ w.heap.size + 1 by omega))
        replace pk9 := cell_set pk9 ⟨w2.heap.size, 3, none⟩ (.slice A4 (N + 1) C4) (.inl (show w2.heap.size ≠ w.heap.size + 1 by omega))
        replace r0 := cell_set r0 ⟨w2.heap.size, 3, none⟩ (.slice A4 (N + 1) C4) (.inl (show w2.heap.size ≠ w.heap.size + 1 + 1 by omega))
        replace r1 := cell_set r1 ⟨w2.heap.size, 3, none⟩ (.slice A4 (N + 1) C4) (.inl (show w2.heap.size ≠ w.heap.size + 1 + 1 by omega))
        replace r2 := cell_set r2 ⟨w2.heap.size, 3, none⟩ (.slice A4 (N + 1) C4) (.inl (show w2.heap.size ≠ w.heap.size + 1 + 1 by omega))
        replace r3 := cell_set r3 ⟨w2.heap.size, 3, none⟩ (.slice A4 (N + 1) C4) (.inl (show w2.heap.size ≠ w.heap.size + 1 + 1 by omega))
        replace t0 := cell_set t0 ⟨w2.heap.size, 3, none⟩ (.slice A4 (N + 1) C4) (.inr (by simp))
        replace t1 := cell_set t1 ⟨w2.heap.size, 3, none⟩ (.slice A4 (N + 1) C4) (.inr (by simp))
        replace t2 := cell_set t2 ⟨w2.heap.size, 3, none⟩ (.slice A4 (N + 1) C4) (.inr (by simp))
        replace t3 := World.cell?_setCell_same _ _ (.slice A4 (N + 1) C4) t3
        replace fT := fun q => frozen_set (fT q) ⟨w2.heap.size, 3, none⟩ (.slice A4 (N + 1) C4)
        replace fR := fun q => frozen_set (fR q) ⟨w2.heap.size, 3, none⟩ (.slice A4 (N + 1) C4)
        have hO5 := own_putN hown4 ⟨w2.heap.size, 3, none⟩ (.slice A4 (N + 1) C4) hne4
        have hK5 := Lib.hid (hK4.set ⟨w2.heap.size, 3, none⟩ (.slice A4 (N + 1) C4) (.inl (.inr rfl)))
        have M5 := M4.put ⟨w2.heap.size, 3, none⟩ (.slice A4 (N + 1) C4) (show w.heap.size ≤ w2.heap.size by omega)
        have z5 : (u4.setCell ⟨w2.heap.size, 3, none⟩ (.slice A4 (N + 1) C4)).heap.size = u4.heap.size := by simp only [World.size_set]
        generalize (u4.setCell ⟨w2.heap.size, 3, none⟩ (.slice A4 (N + 1) C4)) = u5 at *
        clear hown4 hK4 M4
        go_wp2_with fail
        replace k0 := cell_set k0 ⟨w2.heap.size, 2, none⟩ (.int .i64 (x2 + 1)) (.inl (show w2.heap.size ≠ w.heap.size by omega))
        replace k1 := cell_set k1 ⟨w2.heap.size, 2, none⟩ (.int .i64 (x2 + 1)) (.inl (show w2.heap.size ≠ w.heap.size by omega))
        replace k2 := cell_set k2 ⟨w2.heap.size, 2, none⟩ (.int .i64 (x2 + 1)) (.inl (show w2.heap.size ≠ w.heap.size by omega))
        replace k3 := cell_set k3 ⟨w2.heap.size, 2, none⟩ (.int .i64 (x2 + 1)) (.inl (show w2.heap.size ≠ w.heap.size by omega))
        replace pk0 := cell_set pk0 ⟨w2.heap.size, 2, none⟩ (.int .i64 (x2 + 1)) (.inl (show w2.heap.size ≠ w.heap.size + 1 by omega))
        replace pk1 := cell_set pk1 ⟨w2.heap.size, 2, none⟩ (.int .i64 (x2 + 1)) (.inl (show w2.heap.size ≠ w.heap.size + 1 by omega))
        replace pk2 := cell_set pk2 ⟨w2.heap.size, 2, none⟩ (.int .i64 (x2 + 1)) (.inl (show w2.heap.size ≠ w.heap.size + 1 by omega))
        replace pk3 := cell_set pk3 ⟨w2.heap.size, 2, none⟩ (.int .i64 (x2 + 1)) (.inl (show w2.heap.size ≠ w.heap.size + 1 by omega))
        replace pk4 := cell_set pk4 ⟨w2.heap.size, 2, none⟩ (.int .i64 (x2 + 1)) (.inl (show w2.heap.size ≠ w.heap.size + 1 by omega))
        replace pk5 := cell_set pk5 ⟨w2.heap.size, 2, none⟩ (.int .i64 (x2 + 1)) (.inl (show w2.heap.size ≠ w.heap.size + 1 by omega))
        replace pk6 := cell_set pk6 ⟨w2.heap.size, 2, none⟩ (.int .i64 (x2 + 1)) (.inl (show w2.heap.size ≠ w.heap.size + 1 by omega))
        replace pk7 := cell_set pk7 ⟨w2.heap.size, 2, none⟩ (.int .i64 (x2 + 1)) (.inl (show w2.heap.size ≠ w.heap.size + 1 by omega))
        replace pk8 := cell_set pk8 ⟨w2.heap.size, 2, none⟩ (.int .i64 (x2 + 1)) (.inl (show w2.heap.size ≠ w.heap.size + 1 by omega))
        replace pk9 := cell_set pk9 ⟨w2.heap.size, 2, none⟩ (.int .i64 (x2 + 1)) (.inl (show w2.heap.size ≠ w.heap.size + 1 by omega))
        replace r0 := cell_set r0 ⟨w2.heap.size, 2, none⟩ (.int .i64 (x2 + 1)) (.inl (show w2.heap.size ≠ w.heap.size + 1 + 1 by omega))
        replace r1 := cell_set r1 ⟨w2.heap.size, 2, none⟩ (.int .i64 (x2 + 1)) (.inl (show w2.heap.size ≠ w.heap.size + 1 + 1 by omega))
        replace r2 := cell_set r2 ⟨w2.heap.size, 2, none⟩ (.int .i64 (x2 + 1)) (.inl (show w2.heap.size ≠ w.heap.size + 1 + 1 by omega))
        replace r3 := cell_set r3 ⟨w2.heap.size, 2, none⟩ (.int .i64 (x2 + 1)) (.inl (show w2.heap.size ≠ w.heap.size + 1 + 1 by omega))
        replace t0 := cell_set t0 ⟨w2.heap.size, 2, none⟩ (.int .i64 (x2 + 1)) (.inr (by simp))
        replace t1 := cell_set t1 ⟨w2.heap.size, 2, none⟩ (.int .i64 (x2 + 1)) (.inr (by simp))
        replace t2 := World.cell?_setCell_same _ _ (.int .i64 (x2 + 1)) t2
        replace t3 := cell_set t3 ⟨w2.heap.size, 2, none⟩ (.int .i64 (x2 + 1)) (.inr (by simp))
        replace fR := fun q => frozen_set (fR q) ⟨w2.heap.size, 2, none⟩ (.int .i64 (x2 + 1))
        replace hO5 := own_putN hO5 ⟨w2.heap.size, 2, none⟩ (.int .i64 (x2 + 1)) hne4
        replace hK5 := Lib.hid (hK5.out.set ⟨w2.heap.size, 2, none⟩ (.int .i64 (x2 + 1)) (.inl (.inr rfl)))
        replace M5 := M5.put ⟨w2.heap.size, 2, none⟩ (.int .i64 (x2 + 1)) (show w.heap.size ≤ w2.heap.size by omega)
        have z6 : (u5.setCell ⟨w2.heap.size, 2, none⟩ (.int .i64 (x2 + 1))).heap.size = u5.heap.size := by simp only [World.size_set]
        have hR2 : (zs ++ [(⟨z9⟩ : TMessage)]).length = N + 1 := by rw [List.length_append, hR]; rfl
        replace r0 := World.cell?_setCell_same _ _ (.int .i64 x0) r0
        replace r1 := cell_set r1 ⟨w.heap.size + 1 + 1, 0, none⟩ (.int .i64 x0) (.inr (by simp))
        replace r2 := cell_set r2 ⟨w.heap.size + 1 + 1, 0, none⟩ (.int .i64 x0) (.inr (by simp))
        replace r3 := cell_set r3 ⟨w.heap.size + 1 + 1, 0, none⟩ (.int .i64 x0) (.inr (by simp))
        replace hO5 := own_put hO5 ⟨w.heap.size + 1 + 1, 0, none⟩ (.int .i64 x0) (show w.heap.size + 1 + 1 < wb.heap.size by omega)
        replace hK5 := Lib.hid (hK5.out.set ⟨w.heap.size + 1 + 1, 0, none⟩ (.int .i64 x0) (.inr (.inl (show w.heap.size + 1 + 1 < wb.heap.size by omega))))
        replace M5 := M5.put ⟨w.heap.size + 1 + 1, 0, none⟩ (.int .i64 x0) (show w.heap.size ≤ w.heap.size + 1 + 1 by omega)
        replace r0 := cell_set r0 ⟨w.heap.size + 1 + 1, 1, none⟩ (.int .i64 x1) (.inr (by simp))
        replace r1 := World.cell?_setCell_same _ _ (.int .i64 x1) r1
        replace r2 := cell_set r2 ⟨w.heap.size + 1 + 1, 1, none⟩ (.int .i64 x1) (.inr (by simp))
        replace r3 := cell_set r3 ⟨w.heap.size + 1 + 1, 1, none⟩ (.int .i64 x1) (.inr (by simp))
        replace hO5 := own_put hO5 ⟨w.heap.size + 1 + 1, 1, none⟩ (.int .i64 x1) (show w.heap.size + 1 + 1 < wb.heap.size by omega)
        replace hK5 := Lib.hid (hK5.out.set ⟨w.heap.size + 1 + 1, 1, none⟩ (.int .i64 x1) (.inr (.inl (show w.heap.size + 1 + 1 < wb.heap.size by omega))))
        replace M5 := M5.put ⟨w.heap.size + 1 + 1, 1, none⟩ (.int .i64 x1) (show w.heap.size ≤ w.heap.size + 1 + 1 by omega)
        replace r0 := cell_set r0 ⟨w.heap.size + 1 + 1, 2, none⟩ (.int .i64 (x2 + 1)) (.inr (by simp))
        replace r1 := cell_set r1 ⟨w.heap.size + 1 + 1, 2, none⟩ (.int .i64 (x2 + 1)) (.inr (by simp))
        replace r2 := World.cell?_setCell_same _ _ (.int .i64 (x2 + 1)) r2
        replace r3 := cell_set r3 ⟨w.heap.size + 1 + 1, 2, none⟩ (.int .i64 (x2 + 1)) (.inr (by simp))
        replace hO5 := own_put hO5 ⟨w.heap.size + 1 + 1, 2, none⟩ (.int .i64 (x2 + 1)) (show w.heap.size + 1 + 1 < wb.heap.size by omega)
        replace hK5 := Lib.hid (hK5.out.set ⟨w.heap.size + 1 + 1, 2, none⟩ (.int .i64 (x2 + 1)) (.inr (.inl (show w.heap.size + 1 + 1 < wb.heap.size by omega))))
        replace M5 := M5.put ⟨w.heap.size + 1 + 1, 2, none⟩ (.int .i64 (x2 + 1)) (show w.heap.size ≤ w.heap.size + 1 + 1 by omega)
        replace r0 := cell_set r0 ⟨w.heap.size + 1 + 1, 3, none⟩ (.slice A4 (N + 1) C4) (.inr (by simp))
        replace r1 := cell_set r1 ⟨w.heap.size + 1 + 1, 3, none⟩ (.slice A4 (N + 1) C4) (.inr (by simp))
        replace r2 := cell_set r2 ⟨w.heap.size + 1 + 1, 3, none⟩ (.slice A4 (N + 1) C4) (.inr (by simp))
        replace r3 := World.cell?_setCell_same _ _ (.slice A4 (N + 1) C4) r3
        replace hO5 := own_put hO5 ⟨w.heap.size + 1 + 1, 3, none⟩ (.slice A4 (N + 1) C4) (show w.heap.size + 1 + 1 < wb.heap.size by omega)
        replace hK5 := Lib.hid (hK5.out.set ⟨w.heap.size + 1 + 1, 3, none⟩ (.slice A4 (N + 1) C4) (.inr (.inl (show w.heap.size + 1 + 1 < wb.heap.size by omega))))
        replace M5 := M5.put ⟨w.heap.size + 1 + 1, 3, none⟩ (.slice A4 (N + 1) C4) (show w.heap.size ≤ w.heap.size + 1 + 1 by omega)
        have hz9 : (((((u5.setCell ⟨w2.heap.size, 2, none⟩ (.int .i64 (x2 + 1))).setCell ⟨w.heap.size + 1 + 1, 0, none⟩ (.int .i64 x0)).setCell ⟨w.heap.size + 1 + 1, 1, none⟩ (.int .i64 x1)).setCell ⟨w.heap.size + 1 + 1, 2, none⟩ (.int .i64 (x2 + 1))).setCell ⟨w.heap.size + 1 + 1, 3, none⟩ (.slice A4 (N + 1) C4)).heap.size = u5.heap.size := by simp only [World.size_set]
        generalize (((((u5.setCell ⟨w2.heap.size, 2, none⟩ (.int .i64 (x2 + 1))).setCell ⟨w.heap.size + 1 + 1, 0, none⟩ (.int .i64 x0)).setCell ⟨w.heap.size + 1 + 1, 1, none⟩ (.int .i64 x1)).setCell ⟨w.heap.size + 1 + 1, 2, none⟩ (.int .i64 (x2 + 1))).setCell ⟨w.heap.size + 1 + 1, 3, none⟩ (.slice A4 (N + 1) C4)) = w9 at *
        have hOwn := OwnN.of_row (hi := w9.heap.size) hO5 ((hK5.out.avoid (q' := fun g => (Value.slice A4 (N + 1) C4).ownBlock = some g) (fun b hb => .inl (.inl hb))).wide (Nat.le_refl _) (show hi8 ≤ w9.heap.size by omega)) hR2 (Nat.le_refl _)
        exact bodyPost_ret (v := .agg #[.int .i64 x0, .int .i64 x1, .int .i64 (x2 + 1), .slice A4 (N + 1) C4]) (by simp [results, Try.results27, go_sem, r0, r1, r2, r3]) rfl ⟨_, _, _, by rw [HN.out]; rfl, ⟨hca4, hcb4⟩, by rw [HN.out]; exact hOwn.wide (by omega) (Nat.le_refl _), M5⟩
      · have g20 : decide (x2 < 20) = false := decide_eq_false e20
        have HN := Lib.hid (show hdB x0 x1 x2 p0 p1 p2 p8 = false by rw [HDB.out, g20, e8]; rfl)
        go_wp2_with fail
        refine KF.mono ?_
        rintro e w3 ⟨rfl, m3⟩
        replace k0 := m3.cellAt k0
        replace k1 := m3.cellAt k1
        replace k2 := m3.cellAt k2
        replace k3 := m3.cellAt k3
        replace pk0 := m3.cellAt pk0
        replace pk1 := m3.cellAt pk1
        replace pk2 := m3.cellAt pk2
        replace pk3 := m3.cellAt pk3
        replace pk4 := m3.cellAt pk4
        replace pk5 := m3.cellAt pk5
        replace pk6 := m3.cellAt pk6
        replace pk7 := m3.cellAt pk7
        replace pk8 := m3.cellAt pk8
        replace pk9 := m3.cellAt pk9
        replace r0 := m3.cellAt r0
        replace r1 := m3.cellAt r1
        replace r2 := m3.cellAt r2
        replace r3 := m3.cellAt r3
        replace t0 := m3.cellAt t0
        replace t1 := m3.cellAt t1
        replace t2 := m3.cellAt t2
        replace t3 := m3.cellAt t3
        replace fT : ∀ q, w3.frozen? ⟨w2.heap.size, q, none⟩ = false := fun q => (m3.frozen (b := w2.heap.size) (o := q) (by omega) (.inr (Nat.zero_le _))).trans (fT q)
        replace fR : ∀ q, w3.frozen? ⟨w.heap.size + 1 + 1, q, none⟩ = false := fun q => (m3.frozen (b := w.heap.size + 1 + 1) (o := q) (by omega) (.inr (Nat.zero_le _))).trans (fR q)
        replace hO := own_keptR hO m3
        replace hK := Lib.hid (hK.out.mk m3 (by omega) (.inr (.inr (Nat.le_refl _))))
        replace M := M.trans m3
        have hz3 := m3.size
        clear KF m3
        go_wp2_with fail
        replace r0 := World.cell?_setCell_same _ _ (.int .i64 x0) r0
        replace r1 := cell_set r1 ⟨w.heap.size + 1 + 1, 0, none⟩ (.int .i64 x0) (.inr (by simp))
        replace r2 := cell_set r2 ⟨w.heap.size + 1 + 1, 0, none⟩ (.int .i64 x0) (.inr (by simp))
        replace r3 := cell_set r3 ⟨w.heap.size + 1 + 1, 0, none⟩ (.int .i64 x0) (.inr (by simp))
        replace hO := own_put hO ⟨w.heap.size + 1 + 1, 0, none⟩ (.int .i64 x0) (show w.heap.size + 1 + 1 < wb.heap.size by omega)
        replace hK := Lib.hid (hK.out.set ⟨w.heap.size + 1 + 1, 0, none⟩ (.int .i64 x0) (.inr (.inl (show w.heap.size + 1 + 1 < wb.heap.size by omega))))
        replace M := M.put ⟨w.heap.size + 1 + 1, 0, none⟩ (.int .i64 x0) (show w.heap.size ≤ w.heap.size + 1 + 1 by omega)
        replace r0 := cell_set r0 ⟨w.heap.size + 1 + 1, 1, none⟩ (.int .i64 x1) (.inr (by simp))
        replace r1 := World.cell?_setCell_same _ _ (.int .i64 x1) r1
        replace r2 := cell_set r2 ⟨w.heap.size + 1 + 1, 1, none⟩ (.int .i64 x1) (.inr (by simp))
        replace r3 := cell_set r3 ⟨w.heap.size + 1 + 1, 1, none⟩ (.int .i64 x1) (.inr (by simp))
        replace hO := own_put hO ⟨w.heap.size + 1 + 1, 1, none⟩ (.int .i64 x1) (show w.heap.size + 1 + 1 < wb.heap.size by omega)
        replace hK := Lib.hid (hK.out.set ⟨w.heap.size + 1 + 1, 1, none⟩ (.int .i64 x1) (.inr (.inl (show w.heap.size + 1 + 1 < wb.heap.size by omega))))
        replace M := M.put ⟨w.heap.size + 1 + 1, 1, none⟩ (.int .i64 x1) (show w.heap.size ≤ w.heap.size + 1 + 1 by omega)
        replace r0 := cell_set r0 ⟨w.heap.size + 1 + 1, 2, none⟩ (.int .i64 x2) (.inr (by simp))
        replace r1 := cell_set r1 ⟨w.heap.size + 1 + 1, 2, none⟩ (.int .i64 x2) (.inr (by simp))
        replace r2 := World.cell?_setCell_same _ _ (.int .i64 x2) r2
        replace r3 := cell_set r3 ⟨w.heap.size + 1 + 1, 2, none⟩ (.int .i64 x2) (.inr (by simp))
        replace hO := own_put hO ⟨w.heap.size + 1 + 1, 2, none⟩ (.int .i64 x2) (show w.heap.size + 1 + 1 < wb.heap.size by omega)
        replace hK := Lib.hid (hK.out.set ⟨w.heap.size + 1 + 1, 2, none⟩ (.int .i64 x2) (.inr (.inl (show w.heap.size + 1 + 1 < wb.heap.size by omega))))
        replace M := M.put ⟨w.heap.size + 1 + 1, 2, none⟩ (.int .i64 x2) (show w.heap.size ≤ w.heap.size + 1 + 1 by omega)
        replace r0 := cell_set r0 ⟨w.heap.size + 1 + 1, 3, none⟩ (.slice A N C) (.inr (by simp))
        replace r1 := cell_set r1 ⟨w.heap.size + 1 + 1, 3, none⟩ (.slice A N C) (.inr (by simp))
        replace r2 := cell_set r2 ⟨w.heap.size + 1 + 1, 3, none⟩ (.slice A N C) (.inr (by simp))
        replace r3 := World.cell?_setCell_same _ _ (.slice A N C) r3
        replace hO := own_put hO ⟨w.heap.size + 1 + 1, 3, none⟩ (.slice A N C) (show w.heap.size + 1 + 1 < wb.heap.size by omega)
        replace hK := Lib.hid (hK.out.set ⟨w.heap.size + 1 + 1, 3, none⟩ (.slice A N C) (.inr (.inl (show w.heap.size + 1 + 1 < wb.heap.size by omega))))
        replace M := M.put ⟨w.heap.size + 1 + 1, 3, none⟩ (.slice A N C) (show w.heap.size ≤ w.heap.size + 1 + 1 by omega)
        have hz9 : ((((w3.setCell ⟨w.heap.size + 1 + 1, 0, none⟩ (.int .i64 x0)).setCell ⟨w.heap.size + 1 + 1, 1, none⟩ (.int .i64 x1)).setCell ⟨w.heap.size + 1 + 1, 2, none⟩ (.int .i64 x2)).setCell ⟨w.heap.size + 1 + 1, 3, none⟩ (.slice A N C)).heap.size = w3.heap.size := by simp only [World.size_set]
        generalize ((((w3.setCell ⟨w.heap.size + 1 + 1, 0, none⟩ (.int .i64 x0)).setCell ⟨w.heap.size + 1 + 1, 1, none⟩ (.int .i64 x1)).setCell ⟨w.heap.size + 1 + 1, 2, none⟩ (.int .i64 x2)).setCell ⟨w.heap.size + 1 + 1, 3, none⟩ (.slice A N C)) = w9 at *
        have hOwn := OwnN.of_row (hi := w9.heap.size) hO ((hK.out.avoid (q' := fun g => (Value.slice A N C).ownBlock = some g) (fun b hb => .inl (.inl hb))).wide (Nat.le_refl _) (show w2.heap.size ≤ w9.heap.size by omega)) hR (Nat.le_refl _)
        obtain ⟨_, _, e9, hca, hcb⟩ := ownsRow_sliceR2 hO
        cases e9
        exact bodyPost_ret (v := .agg #[.int .i64 x0, .int .i64 x1, .int .i64 x2, .slice A N C]) (by simp [results, Try.results27, go_sem, r0, r1, r2, r3]) rfl ⟨_, _, _, by rw [HN.out]; rfl, ⟨hca, hcb⟩, by rw [HN.out]; exact hOwn.wide (by omega) (Nat.le_refl _), M⟩

end Go.Proofs.Ytdlafigjkefllaa
