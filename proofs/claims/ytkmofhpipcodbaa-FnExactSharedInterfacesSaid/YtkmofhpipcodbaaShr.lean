
/- SharedInterfaces of both sides. -/
import Derived.Test.YtkmofhpipcodbaaAff
import Derived.Test.YtkmofhpipcodbaaContI
import Derived.Test.YtkmofhpipcodbaaRealm
import Derived.Test.YtkmofhpipcodbaaCPath
import Derived.Test.YtkmofhpipcodbaaRet
import Derived.Deep.RegionHeld3
namespace Go.Proofs.Ytkmofhpipcodbaa
open Go.ChangeShapes Go.WideShapes Go.ChangeAt Go.RowKit
set_option linter.unusedVariables false
def shN (xs ys : List Int) (N : Nat) : Nat → Int
  | 0 => 0
  | k + 1 => shN xs ys N k + (if inUp (nthI ys) (xs.getD k 0) N then 1 else 0)
theorem shN_le (xs ys : List Int) (N : Nat) : ∀ k, 0 ≤ shN xs ys N k ∧ shN xs ys N k ≤ (k : Int)
  | 0 => by simp [shN]
  | k + 1 => by
    have := shN_le xs ys N k
    rw [shN]
    split <;> omega
set_option maxRecDepth 100000 in
set_option maxHeartbeats 4000000 in
theorem countIn (a a' : Option Addr) (n N c c' B B' : Nat) (xs ys : List Int) (w : World) (h : Has .i64 w B a n xs) (h' : Has .i64 w B' a' N ys) (hn : n ≤ 4194304) (hN : N ≤ 4194304) :
    Calls Try.prog 48 #[.slice a n c, .slice a' N c'] w fun e w' => e = .returned (.int .i64 (shN xs ys N n)) ∧ w = w' := by
  go_enter Try.func48, Try.ntmps48
  go_wp2_with fail
  go_loopw [5, 10] (fun r i wr => ∃ k : Nat, k ≤ n ∧ i = .int .i64 k ∧ r = .int .i64 (shN xs ys N k) ∧ w = wr) (fun _ i _ => n - (intOf i).toNat)
  case atStart => exact ⟨0, Nat.zero_le _, rfl, rfl, rfl⟩
  case round =>
    obtain ⟨k, hk, rfl, rfl, rfl⟩ := hrel
    have MM : w = w := rfl
    by_cases hlt : k < n
    · obtain ⟨b, off, z, rfl, hb, hz, hc⟩ := h.at_ hlt
      cases he : inUp (nthI ys) z N
      · have HE := Lib.hid (show shN xs ys N (k + 1) = shN xs ys N k + 0 by rw [shN, ← hz.out, he]; rfl)
        have HH := Lib.hid he
        clear he
        obtain ⟨Q, hQ⟩ : ∃ Q, Hid (Q = shN xs ys N k) := ⟨_, Lib.hid rfl⟩
        have hq1 : 0 ≤ Q ∧ Q ≤ (k : Int) := by rw [hQ.out]; exact shN_le xs ys N k
        obtain ⟨hq1, hq2⟩ := hq1
        rw [← hQ.out] at HE ⊢
        go_wp2_with fail
        refine (contI z a' N c' B' ys _ h' hN).mono ?_
        rintro e w' ⟨he, rfl⟩
        rw [HH.out] at he
        subst he
        go_wp2_with fail
        go_roundw
        case rel => exact ⟨k + 1, by omega, by go_num, by (rw [HE.out]); all_goals go_num, MM⟩
        case measure => simp [intOf]; omega
      · have HE := Lib.hid (show shN xs ys N (k + 1) = shN xs ys N k + 1 by rw [shN, ← hz.out, he]; rfl)
        have HH := Lib.hid he
        clear he
        obtain ⟨Q, hQ⟩ : ∃ Q, Hid (Q = shN xs ys N k) := ⟨_, Lib.hid rfl⟩
        have hq1 : 0 ≤ Q ∧ Q ≤ (k : Int) := by rw [hQ.out]; exact shN_le xs ys N k
        obtain ⟨hq1, hq2⟩ := hq1
        rw [← hQ.out] at HE ⊢
        go_wp2_with fail
        refine (contI z a' N c' B' ys _ h' hN).mono ?_
        rintro e w' ⟨he, rfl⟩
        rw [HH.out] at he
        subst he
        go_wp2_with fail
        go_roundw
        case rel => exact ⟨k + 1, by omega, by go_num, by (rw [HE.out]); all_goals go_num, MM⟩
        case measure => simp [intOf]; omega
    · obtain rfl : n = k := by omega
      go_wp2_with fail
      go_ret
      exact ⟨rfl, rfl⟩

theorem specUsedR (a : Option Addr) (n c B : Nat) (ps : List TPathPart) (w : World) (h : HasPathPart w B a n ps) (hB : B ≤ w.heap.size) (hn : szPathPart ps n ≤ 1048576) :
    Calls Try.prog 45 #[.agg #[.slice a n c]] w (OutR .i64 w (usedAll ps n)) :=
  (specUsed a n c B ps w h hB hn).mono fun _ _ hh => OutOwnI.r hh
theorem implUsedR (a : Option Addr) (n c B : Nat) (ps : List TPathPart) (w : World) (h : HasPathPart w B a n ps) (hB : B ≤ w.heap.size) (hn : szPathPart ps n ≤ 1048576) :
    Calls Try.prog 49 #[.agg #[.slice a n c]] w (OutR .i64 w (usedAll ps n)) :=
  (implUsed a n c B ps w h hB hn).mono fun _ _ hh => OutOwnI.r hh
set_option maxRecDepth 100000 in
set_option maxHeartbeats 4000000 in
theorem implShr (a a' : Option Addr) (n n' c c' B B' : Nat) (ps ps' : List TPathPart) (w : World) (h : HasPathPart w B a n ps) (h' : HasPathPart w B' a' n' ps') (hB : B ≤ w.heap.size) (hB' : B' ≤ w.heap.size) (hn : szPathPart ps n ≤ 1048576) (hn' : szPathPart ps' n' ≤ 1048576) :
    Calls Try.prog 12 #[.agg #[.slice a n c], .agg #[.slice a' n' c']] w fun e w' => e = .returned (.int .i64 (shN (usedAll ps n) (usedAll ps' n') (usedAll ps' n').length (usedAll ps n).length)) ∧ Mk0 w w' := by
  have M0 := (Mk.alloc w (Obj.cells #[Value.slice a n c] 29)).new (Obj.cells #[Value.slice a' n' c'] 29)
  have u0 : ((w.alloc (Obj.cells #[Value.slice a n c] 29)).alloc (Obj.cells #[Value.slice a' n' c'] 29)).cell? ⟨w.heap.size, 0, none⟩ = some (.slice a n c) := by simp [go_sem]
  have t0 : ((w.alloc (Obj.cells #[Value.slice a n c] 29)).alloc (Obj.cells #[Value.slice a' n' c'] 29)).cell? ⟨w.heap.size + 1, 0, none⟩ = some (.slice a' n' c') := by simp [go_sem]
  have hU := usedAll_len ps n
  have hU' := usedAll_len ps' n'
  have hLU : (usedAll ps n).length ≤ 4194304 := by omega
  have hLU' : (usedAll ps' n').length ≤ 4194304 := by omega
  have HLU := Lib.hid hLU
  have HLU' := Lib.hid hLU'
  clear hU hU' hLU hLU'
  have HX0 := Lib.hid (fun (w' : World) (m : Mk0 ((w.alloc (Obj.cells #[Value.slice a n c] 29)).alloc (Obj.cells #[Value.slice a' n' c'] 29)) w') => m.cellAt u0)
  have HX1 := Lib.hid (fun (w' : World) (m : Mk0 ((w.alloc (Obj.cells #[Value.slice a n c] 29)).alloc (Obj.cells #[Value.slice a' n' c'] 29)) w') => m.cellAt t0)
  clear u0 t0
  have HA : ∀ w', Mk0 ((w.alloc (Obj.cells #[Value.slice a n c] 29)).alloc (Obj.cells #[Value.slice a' n' c'] 29)) w' → HasPathPart w' B a n ps := fun w' m => h.mk (M0.trans m) hB (.inr (Nat.le_refl _))
  have HA' : ∀ w', Mk0 ((w.alloc (Obj.cells #[Value.slice a n c] 29)).alloc (Obj.cells #[Value.slice a' n' c'] 29)) w' → HasPathPart w' B' a' n' ps' := fun w' m => h'.mk (M0.trans m) hB' (.inr (Nat.le_refl _))
  have HBz : ∀ w', Mk0 ((w.alloc (Obj.cells #[Value.slice a n c] 29)).alloc (Obj.cells #[Value.slice a' n' c'] 29)) w' → B ≤ w'.heap.size := fun w' m => Nat.le_trans hB (M0.trans m).size
  have HBz' : ∀ w', Mk0 ((w.alloc (Obj.cells #[Value.slice a n c] 29)).alloc (Obj.cells #[Value.slice a' n' c'] 29)) w' → B' ≤ w'.heap.size := fun w' m => Nat.le_trans hB' (M0.trans m).size
  go_enter Try.func12, Try.ntmps12
  go_wp2_with fail
  refine wp_region_any (by kernel_rfl) ?_
  change wpAny _ _ _ _ _ _ _ (World.drew ((w.alloc (Obj.cells #[Value.slice a n c] 29)).alloc (Obj.cells #[Value.slice a' n' c'] 29)))
  have hM0 : Mk0 ((w.alloc (Obj.cells #[Value.slice a n c] 29)).alloc (Obj.cells #[Value.slice a' n' c'] 29)) ((w.alloc (Obj.cells #[Value.slice a n c] 29)).alloc (Obj.cells #[Value.slice a' n' c'] 29)).drew := Mk.drew1 _
  generalize ((w.alloc (Obj.cells #[Value.slice a n c] 29)).alloc (Obj.cells #[Value.slice a' n' c'] 29)).drew = w0 at *
  refine wpAny_ready (rs := [0, 2]) (by kernel_rfl) (by simp) ?_
  refine (AllReady.cons rfl (fun K hK => ?_) (AllReady.cons rfl (fun K hK => ?_) AllReady.nil))
  · have d0 := HX0.out _ hM0
    go_simp
    refine hK _ _ ?_
    clear hK K
    try simp only [Act.put, List.getElem_toArray, List.getElem_cons_succ, List.getElem_cons_zero, List.setIfInBounds_toArray, List.set_cons_zero, List.set_cons_succ]
    clear d0
    refine wpAny_ready (rs := [1, 2]) (by kernel_rfl) (by simp) ?_
    refine (AllReady.cons rfl (fun K hK => ?_) (AllReady.cons rfl (fun K hK => ?_) AllReady.nil))
    · go_simp
      go_at_call 49
      refine (implUsedR a n c B ps _ (HA _ hM0) (HBz _ hM0) hn).mono ?_
      rintro e w1 ⟨A1, N1, c1, rfl, hc1, o1, b1⟩
      first | refine hK _ _ ?_ | refine ⟨_, rfl, hK _ _ ?_⟩ | skip
      clear hK K
      try simp only [Act.put, List.getElem_toArray, List.getElem_cons_succ, List.getElem_cons_zero, List.setIfInBounds_toArray, List.set_cons_zero, List.set_cons_succ]
      have hh1 := o1.has
      have hM1 := hM0.trans (Mk.of_below b1)
      clear o1 b1 hc1
      refine wpAny_ready (rs := [2]) (by kernel_rfl) (by simp) ?_
      refine (AllReady.cons rfl (fun K hK => ?_) AllReady.nil)
      have d0 := HX1.out _ hM1
      go_simp
      refine hK _ _ ?_
      clear hK K
      try simp only [Act.put, List.getElem_toArray, List.getElem_cons_succ, List.getElem_cons_zero, List.setIfInBounds_toArray, List.set_cons_zero, List.set_cons_succ]
      clear d0
      refine wpAny_ready (rs := [3]) (by kernel_rfl) (by simp) ?_
      refine (AllReady.cons rfl (fun K hK => ?_) AllReady.nil)
      go_simp
      go_at_call 49
      refine (implUsedR a' n' c' B' ps' _ (HA' _ hM1) (HBz' _ hM1) hn').mono ?_
      rintro e w2 ⟨A2, N2, c2, rfl, hc2, o2, b2⟩
      first | refine hK _ _ ?_ | refine ⟨_, rfl, hK _ _ ?_⟩ | skip
      clear hK K
      try simp only [Act.put, List.getElem_toArray, List.getElem_cons_succ, List.getElem_cons_zero, List.setIfInBounds_toArray, List.set_cons_zero, List.set_cons_succ]
      have hh2 := o2.has
      replace hh1 := hh1.next b2
      have hM2 := hM1.trans (Mk.of_below b2)
      clear o2 b2 hc2
      refine wpAny_ready (rs := [4]) (by kernel_rfl) (by simp) ?_
      refine (AllReady.cons rfl (fun K hK => ?_) AllReady.nil)
      go_simp
      go_at_call 48
      refine (countIn A1 A2 N1 N2 c1 c2 _ _ (usedAll ps n) (usedAll ps' n') _ hh1 hh2 (by rw [← hh1.1]; exact HLU.out) (by rw [← hh2.1]; exact HLU'.out)).mono ?_
      rintro e w3 ⟨rfl, rfl⟩
      first | refine hK _ _ ?_ | refine ⟨_, rfl, hK _ _ ?_⟩ | skip
      clear hK K
      try simp only [Act.put, List.getElem_toArray, List.getElem_cons_succ, List.getElem_cons_zero, List.setIfInBounds_toArray, List.set_cons_zero, List.set_cons_succ]
      refine wpAny_ready (rs := [5]) (by kernel_rfl) (by simp) ?_
      refine (AllReady.cons rfl (fun K hK => ?_) AllReady.nil)
      go_simp
      refine hK _ _ ?_
      clear hK K
      try simp only [Act.put, List.getElem_toArray, List.getElem_cons_succ, List.getElem_cons_zero, List.setIfInBounds_toArray, List.set_cons_zero, List.set_cons_succ]
      refine wpAny_done (by kernel_rfl) ?_ _
      refine ‹∀ (a : Act) (w : World), _ → _› _ _ ?_
      go_wp2_with fail
      go_ret
      exact ⟨retI (by rw [← hh1.1, ← hh2.1]), M0.trans hM2⟩
    · have d0 := HX1.out _ hM0
      go_simp
      refine hK _ _ ?_
      clear hK K
      try simp only [Act.put, List.getElem_toArray, List.getElem_cons_succ, List.getElem_cons_zero, List.setIfInBounds_toArray, List.set_cons_zero, List.set_cons_succ]
      clear d0
      refine wpAny_ready (rs := [1]) (by kernel_rfl) (by simp) ?_
      refine (AllReady.cons rfl (fun K hK => ?_) AllReady.nil)
      go_simp
      go_at_call 49
      refine (implUsedR a n c B ps _ (HA _ hM0) (HBz _ hM0) hn).mono ?_
      rintro e w1 ⟨A1, N1, c1, rfl, hc1, o1, b1⟩
      first | refine hK _ _ ?_ | refine ⟨_, rfl, hK _ _ ?_⟩ | skip
      clear hK K
      try simp only [Act.put, List.getElem_toArray, List.getElem_cons_succ, List.getElem_cons_zero, List.setIfInBounds_toArray, List.set_cons_zero, List.set_cons_succ]
      have hh1 := o1.has
      have hM1 := hM0.trans (Mk.of_below b1)
      clear o1 b1 hc1
      refine wpAny_ready (rs := [3]) (by kernel_rfl) (by simp) ?_
      refine (AllReady.cons rfl (fun K hK => ?_) AllReady.nil)
      go_simp
      go_at_call 49
      refine (implUsedR a' n' c' B' ps' _ (HA' _ hM1) (HBz' _ hM1) hn').mono ?_
      rintro e w2 ⟨A2, N2, c2, rfl, hc2, o2, b2⟩
      first | refine hK _ _ ?_ | refine ⟨_, rfl, hK _ _ ?_⟩ | skip
      clear hK K
      try simp only [Act.put, List.getElem_toArray, List.getElem_cons_succ, List.getElem_cons_zero, List.setIfInBounds_toArray, List.set_cons_zero, List.set_cons_succ]
      have hh2 := o2.has
      replace hh1 := hh1.next b2
      have hM2 := hM1.trans (Mk.of_below b2)
      clear o2 b2 hc2
      refine wpAny_ready (rs := [4]) (by kernel_rfl) (by simp) ?_
      refine (AllReady.cons rfl (fun K hK => ?_) AllReady.nil)
      go_simp
      go_at_call 48
      refine (countIn A1 A2 N1 N2 c1 c2 _ _ (usedAll ps n) (usedAll ps' n') _ hh1 hh2 (by rw [← hh1.1]; exact HLU.out) (by rw [← hh2.1]; exact HLU'.out)).mono ?_
      rintro e w3 ⟨rfl, rfl⟩
      first | refine hK _ _ ?_ | refine ⟨_, rfl, hK _ _ ?_⟩ | skip
      clear hK K
      try simp only [Act.put, List.getElem_toArray, List.getElem_cons_succ, List.getElem_cons_zero, List.setIfInBounds_toArray, List.set_cons_zero, List.set_cons_succ]
      refine wpAny_ready (rs := [5]) (by kernel_rfl) (by simp) ?_
      refine (AllReady.cons rfl (fun K hK => ?_) AllReady.nil)
      go_simp
      refine hK _ _ ?_
      clear hK K
      try simp only [Act.put, List.getElem_toArray, List.getElem_cons_succ, List.getElem_cons_zero, List.setIfInBounds_toArray, List.set_cons_zero, List.set_cons_succ]
      refine wpAny_done (by kernel_rfl) ?_ _
      refine ‹∀ (a : Act) (w : World), _ → _› _ _ ?_
      go_wp2_with fail
      go_ret
      exact ⟨retI (by rw [← hh1.1, ← hh2.1]), M0.trans hM2⟩
  · have d0 := HX1.out _ hM0
    go_simp
    refine hK _ _ ?_
    clear hK K
    try simp only [Act.put, List.getElem_toArray, List.getElem_cons_succ, List.getElem_cons_zero, List.setIfInBounds_toArray, List.set_cons_zero, List.set_cons_succ]
    clear d0
    refine wpAny_ready (rs := [0]) (by kernel_rfl) (by simp) ?_
    refine (AllReady.cons rfl (fun K hK => ?_) AllReady.nil)
    have d0 := HX0.out _ hM0
    go_simp
    refine hK _ _ ?_
    clear hK K
    try simp only [Act.put, List.getElem_toArray, List.getElem_cons_succ, List.getElem_cons_zero, List.setIfInBounds_toArray, List.set_cons_zero, List.set_cons_succ]
    clear d0
    refine wpAny_ready (rs := [1]) (by kernel_rfl) (by simp) ?_
    refine (AllReady.cons rfl (fun K hK => ?_) AllReady.nil)
    go_simp
    go_at_call 49
    refine (implUsedR a n c B ps _ (HA _ hM0) (HBz _ hM0) hn).mono ?_
    rintro e w1 ⟨A1, N1, c1, rfl, hc1, o1, b1⟩
    first | refine hK _ _ ?_ | refine ⟨_, rfl, hK _ _ ?_⟩ | skip
    clear hK K
    try simp only [Act.put, List.getElem_toArray, List.getElem_cons_succ, List.getElem_cons_zero, List.setIfInBounds_toArray, List.set_cons_zero, List.set_cons_succ]
    have hh1 := o1.has
    have hM1 := hM0.trans (Mk.of_below b1)
    clear o1 b1 hc1
    refine wpAny_ready (rs := [3]) (by kernel_rfl) (by simp) ?_
    refine (AllReady.cons rfl (fun K hK => ?_) AllReady.nil)
    go_simp
    go_at_call 49
    refine (implUsedR a' n' c' B' ps' _ (HA' _ hM1) (HBz' _ hM1) hn').mono ?_
    rintro e w2 ⟨A2, N2, c2, rfl, hc2, o2, b2⟩
    first | refine hK _ _ ?_ | refine ⟨_, rfl, hK _ _ ?_⟩ | skip
    clear hK K
    try simp only [Act.put, List.getElem_toArray, List.getElem_cons_succ, List.getElem_cons_zero, List.setIfInBounds_toArray, List.set_cons_zero, List.set_cons_succ]
    have hh2 := o2.has
    replace hh1 := hh1.next b2
    have hM2 := hM1.trans (Mk.of_below b2)
    clear o2 b2 hc2
    refine wpAny_ready (rs := [4]) (by kernel_rfl) (by simp) ?_
    refine (AllReady.cons rfl (fun K hK => ?_) AllReady.nil)
    go_simp
    go_at_call 48
    refine (countIn A1 A2 N1 N2 c1 c2 _ _ (usedAll ps n) (usedAll ps' n') _ hh1 hh2 (by rw [← hh1.1]; exact HLU.out) (by rw [← hh2.1]; exact HLU'.out)).mono ?_
    rintro e w3 ⟨rfl, rfl⟩
    first | refine hK _ _ ?_ | refine ⟨_, rfl, hK _ _ ?_⟩ | skip
    clear hK K
    try simp only [Act.put, List.getElem_toArray, List.getElem_cons_succ, List.getElem_cons_zero, List.setIfInBounds_toArray, List.set_cons_zero, List.set_cons_succ]
    refine wpAny_ready (rs := [5]) (by kernel_rfl) (by simp) ?_
    refine (AllReady.cons rfl (fun K hK => ?_) AllReady.nil)
    go_simp
    refine hK _ _ ?_
    clear hK K
    try simp only [Act.put, List.getElem_toArray, List.getElem_cons_succ, List.getElem_cons_zero, List.setIfInBounds_toArray, List.set_cons_zero, List.set_cons_succ]
    refine wpAny_done (by kernel_rfl) ?_ _
    refine ‹∀ (a : Act) (w : World), _ → _› _ _ ?_
    go_wp2_with fail
    go_ret
    exact ⟨retI (by rw [← hh1.1, ← hh2.1]), M0.trans hM2⟩

set_option maxRecDepth 100000 in
set_option maxHeartbeats 4000000 in
theorem specShr (a a' : Option Addr) (n n' c c' B B' : Nat) (ps ps' : List TPathPart) (w : World) (h : HasPathPart w B a n ps) (h' : HasPathPart w B' a' n' ps') (hB : B ≤ w.heap.size) (hB' : B' ≤ w.heap.size) (hn : szPathPart ps n ≤ 1048576) (hn' : szPathPart ps' n' ≤ 1048576) :
    Calls Try.prog 10 #[.agg #[.slice a n c], .agg #[.slice a' n' c']] w fun e w' => e = .returned (.int .i64 (shN (usedAll ps n) (usedAll ps' n') (usedAll ps' n').length (usedAll ps n).length)) ∧ Mk0 w w' := by
  have M0 := (Mk.alloc w (Obj.cells #[Value.slice a n c] 29)).new (Obj.cells #[Value.slice a' n' c'] 29)
  have u0 : ((w.alloc (Obj.cells #[Value.slice a n c] 29)).alloc (Obj.cells #[Value.slice a' n' c'] 29)).cell? ⟨w.heap.size, 0, none⟩ = some (.slice a n c) := by simp [go_sem]
  have t0 : ((w.alloc (Obj.cells #[Value.slice a n c] 29)).alloc (Obj.cells #[Value.slice a' n' c'] 29)).cell? ⟨w.heap.size + 1, 0, none⟩ = some (.slice a' n' c') := by simp [go_sem]
  have hU := usedAll_len ps n
  have hU' := usedAll_len ps' n'
  have hLU : (usedAll ps n).length ≤ 4194304 := by omega
  have hLU' : (usedAll ps' n').length ≤ 4194304 := by omega
  have HLU := Lib.hid hLU
  have HLU' := Lib.hid hLU'
  clear hU hU' hLU hLU'
  go_enter Try.func10, Try.ntmps10
  go_wp2_with fail
  refine (specUsedR a n c B ps _ (h.mk M0 hB (.inr (Nat.le_refl _))) (Nat.le_trans hB M0.size) hn).mono ?_
  rintro e w1 hr1
  obtain ⟨A1, N1, c1, rfl, hc1, o1, b1⟩ := hr1
  have m1 := Mk.of_below b1
  replace t0 := m1.cellAt t0
  have M1 := M0.trans m1
  clear u0
  go_wp2_with fail
  refine (specUsedR a' n' c' B' ps' _ (h'.mk M1 hB' (.inr (Nat.le_refl _))) (Nat.le_trans hB' M1.size) hn').mono ?_
  rintro e w2 hr2
  obtain ⟨A2, N2, c2, rfl, hc2, o2, b2⟩ := hr2
  have m2 := Mk.of_below b2
  have M2 := M1.trans m2
  have ho1 := o1.has.next b2
  have ho2 := o2.has
  have HN1 := Lib.hid o1.1
  have HN2 := Lib.hid o2.1
  have hN1 : N1 ≤ 4194304 := by rw [← o1.1]; exact HLU.out
  have hN2 : N2 ≤ 4194304 := by rw [← o2.1]; exact HLU'.out
  have i1 : (N1 : Int) ≤ 4194304 := by omega
  obtain ⟨xs, hxs⟩ : ∃ xs, Hid (xs = usedAll ps n) := ⟨_, Lib.hid rfl⟩
  obtain ⟨ys, hys⟩ : ∃ ys, Hid (ys = usedAll ps' n') := ⟨_, Lib.hid rfl⟩
  rw [← hxs.out] at ho1
  rw [← hys.out] at ho2
  clear o1 o2 b1 b2 t0
  go_wp2_with fail
  go_loopw [5, 8] (fun r i wr => ∃ k : Nat, k ≤ N1 ∧ i = .int .i64 k ∧ r = .int .i64 (shN xs ys N2 k) ∧ w2 = wr) (fun _ i _ => N1 - (intOf i).toNat)
  case atStart => exact ⟨0, Nat.zero_le _, rfl, rfl, rfl⟩
  case round =>
    obtain ⟨k, hk, rfl, rfl, rfl⟩ := hrel
    have MM : w2 = w2 := rfl
    by_cases hlt : k < N1
    · obtain ⟨b, off, z, rfl, hb, hz, hc⟩ := ho1.at_ hlt
      have hi1 : (0 : Int) ≤ (k : Int) := by omega
      have hi2 : (k : Int) < (N1 : Int) := by omega
      cases he : inUp (nthI ys) z N2
      · have HE := Lib.hid (show shN xs ys N2 (k + 1) = shN xs ys N2 k + 0 by rw [shN, ← hz.out, he]; rfl)
        have HH := Lib.hid he
        clear he
        obtain ⟨Q, hQ⟩ : ∃ Q, Hid (Q = shN xs ys N2 k) := ⟨_, Lib.hid rfl⟩
        have hq1 : 0 ≤ Q ∧ Q ≤ (k : Int) := by rw [hQ.out]; exact shN_le xs ys N2 k
        obtain ⟨hq1, hq2⟩ := hq1
        rw [← hQ.out] at HE ⊢
        go_wp2_with fail
        refine (specHas9 z A2 N2 c2 _ ys _ ho2 hN2).mono ?_
        rintro e w' ⟨he, rfl⟩
        rw [show inUp (fun j => ys.getD j 0) z N2 = inUp (nthI ys) z N2 from rfl, HH.out] at he
        subst he
        go_wp2_with fail
        go_roundw
        case rel => exact ⟨k + 1, by omega, by go_num, by (rw [HE.out]); all_goals go_num, MM⟩
        case measure => simp [intOf]; omega
      · have HE := Lib.hid (show shN xs ys N2 (k + 1) = shN xs ys N2 k + 1 by rw [shN, ← hz.out, he]; rfl)
        have HH := Lib.hid he
        clear he
        obtain ⟨Q, hQ⟩ : ∃ Q, Hid (Q = shN xs ys N2 k) := ⟨_, Lib.hid rfl⟩
        have hq1 : 0 ≤ Q ∧ Q ≤ (k : Int) := by rw [hQ.out]; exact shN_le xs ys N2 k
        obtain ⟨hq1, hq2⟩ := hq1
        rw [← hQ.out] at HE ⊢
        go_wp2_with fail
        refine (specHas9 z A2 N2 c2 _ ys _ ho2 hN2).mono ?_
        rintro e w' ⟨he, rfl⟩
        rw [show inUp (fun j => ys.getD j 0) z N2 = inUp (nthI ys) z N2 from rfl, HH.out] at he
        subst he
        go_wp2_with fail
        go_roundw
        case rel => exact ⟨k + 1, by omega, by go_num, by (rw [HE.out]); all_goals go_num, MM⟩
        case measure => simp [intOf]; omega
    · obtain rfl : N1 = k := by omega
      go_wp2_with fail
      go_ret
      exact ⟨retI (by rw [hxs.out, hys.out, ← HN1.out, ← HN2.out]), M2⟩

end Go.Proofs.Ytkmofhpipcodbaa
