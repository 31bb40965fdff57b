
/- append of a row of integers to a row of the call's own; what a call's own row reads as. -/
import Derived.Test.YtdhdkhnefnbdgaaGreatDoorRow
import Derived.Handy
import Derived.OwnWalk
import Derived.Maps.AppendAt
import Derived.Laws.AppendOwnNone
import Derived.Lib.AppendZeros
import Derived.Deep.QuietTactic
import Derived.BigQuiet
import Derived.Test.YtdhdkhnefnbdgaaGreatDoorRows
import Derived.Below
import Derived.Lib.Hide
namespace Go.Proofs.YtdhdkhnefnbdgaaGreatDoor
open Go Go.RowKit
set_option linter.unusedVariables false

theorem own_lit (w : World) (e : TypeId) (us : List Value) (hm : us.length ≤ 1073741824) :
    (w.alloc (.cells us.toArray e)).ownsRow w.heap.size e 1 (.slice (some ⟨w.heap.size, 0, none⟩) us.length us.length) us.length us := by
  refine ⟨by simp, .inr ⟨w.heap.size, us.length, us.toArray, rfl, Nat.le_refl _, heap_alloc_new w _, Nat.le_refl _, by unfold maxLen; omega, by simp, by simp⟩⟩

theorem ownsRow_slice {w : World} {lo n : Nat} {e : TypeId} {v : Value} {xs : List Value} (h : w.ownsRow lo e 1 v n xs) : ∃ A c, v = .slice A n c ∧ (A = none → c = 0) := by
  rcases h.2 with ⟨rfl, rfl⟩ | ⟨g, cap, cur, rfl, _⟩
  · exact ⟨none, 0, rfl, fun _ => rfl⟩
  · exact ⟨_, cap, rfl, fun h => by cases h⟩

theorem ownsRow_own {k : IntKind} {w : World} {lo n c : Nat} {e : TypeId} {A : Option Addr} {zs : List Int} (h : w.ownsRow lo e 1 (.slice A n c) n (zs.map (.int k))) : Own k w lo A n zs := by
  have hl : zs.length = n := by have := h.1; simpa using this
  refine ⟨hl, fun hn => ?_⟩
  have h2 := h.2
  rcases h2 with ⟨h', h0⟩ | ⟨g, cap, cur, h', hlo, hh, _⟩
  · omega
  · simp only [Value.slice.injEq, true_and] at h'
    obtain ⟨rfl, rfl⟩ := h'
    refine ⟨g, 0, rfl, hlo, ?_, fun i hi => ⟨?_, ?_⟩⟩
    · rcases Nat.lt_or_ge g w.heap.size with h' | h'
      · exact h'
      · rw [Array.getElem?_eq_none h'] at hh; cases hh
    · rw [Nat.zero_add, h.cellAt i (by omega)]
      simp [List.getD_eq_getElem?_getD, hl, hi]
    · rw [Nat.zero_add]; exact h.frozenAt i

theorem OutR.of {k : IntKind} {w w' : World} {R : List Int} {v : Value} {n : Nat} {e : TypeId} (h : w'.ownsRow w.heap.size e 1 v n (R.map (.int k))) (hb : Below w.heap.size w w') : OutR k w R (.returned v) w' := by
  obtain ⟨A, c, rfl, hc⟩ := ownsRow_slice h
  exact ⟨A, n, c, rfl, hc, ownsRow_own h, hb⟩
theorem own_low {w : World} {lo lo' n : Nat} {e : TypeId} {v : Value} {xs : List Value} (h : w.ownsRow lo' e 1 v n xs) (hl : lo ≤ lo') : w.ownsRow lo e 1 v n xs := by
  refine ⟨h.1, ?_⟩
  rcases h.2 with h' | ⟨g, cap, cur, h1, h2, h3⟩
  · exact .inl h'
  · exact .inr ⟨g, cap, cur, h1, by omega, h3⟩
theorem has_new (k : IntKind) (w : World) (e : TypeId) (u : Int) : Has k (w.alloc (.cells #[.int k u] e)) (w.alloc (.cells #[.int k u] e)).heap.size (some ⟨w.heap.size, 0, none⟩) 1 [u] := by
  refine ⟨rfl, fun _ => ⟨_, 0, rfl, by simp, fun i hi => ?_⟩⟩
  obtain rfl : i = 0 := by omega
  simp

theorem Has.alloc {k : IntKind} {w : World} {A : Option Addr} {n : Nat} {zs : List Int} (h : Has k w w.heap.size A n zs) (o : Obj) : Has k (w.alloc o) (w.alloc o).heap.size A n zs :=
  h.next ((Below.refl _ _).alloc (Nat.le_refl _) o)

/-- append(v, s...), v the call's own, s whatever reads as ns. -/
theorem wpList_app {P : Program} {k : IntKind} {w : World} {ops : Array Oper} {rest : List Oper} {o : Oper} {a : Act} {Q : Exit → Act → World → Prop} (hgd : o.guard = none) (s x : Operand) (t : TypeId)
    (ho : o.op = .call { callee := .builtin .append, args := #[s, x], argTypes := #[t, t] })
    (lo : Nat) (e : TypeId) (i : TypeInfo) (ht : P.underlying t = some (.slice e)) (hi : P.info? e = some i) (hz : i.zero = some (.int k 0)) (hsize : i.size = 1) (hby : i.bytes ≤ 8)
    (v : Value) (zs : List Int) (n : Nat) (hs : a.eval s = v) (hown : w.ownsRow lo e 1 v n (zs.map (.int k)))
    (A : Option Addr) (m c : Nat) (ns : List Int) (hx : a.eval x = .slice A m c) (hc0 : A = none → c = 0) (hr : Has k w w.heap.size A m ns)
    (hmax : n + m ≤ 1073741824) (hlo : lo ≤ w.heap.size)
    (h : ∀ v' w', w'.ownsRow lo e 1 v' (n + m) ((zs ++ ns).map (.int k)) → w.grownBy w' v.ownBlock → (v'.ownBlock = v.ownBlock ∨ v'.ownBlock = some w.heap.size) → wpList P ops Q rest (a.put o.dst v') w') :
    wpList P ops Q (o :: rest) a w := by
  have hm := hr.1
  rcases A with _ | ad
  · have h0 : m = 0 := by
      rcases Nat.eq_zero_or_pos m with h0 | h0
      · exact h0
      · obtain ⟨b, off, hh, _⟩ := hr.2 h0
        cases hh
    subst h0
    obtain rfl : ns = [] := List.eq_nil_of_length_eq_zero hm
    obtain rfl := hc0 rfl
    exact wpList_append_own_none hgd s x t ho lo e i 1 ht hi v n (zs.map (.int k)) hs hown hx (h v w (by simpa using hown) (World.grownBy.refl w _) (.inl rfl))
  · refine wpList_append_own_at w hgd s x t ho lo e i (.int k 0) 1 i.bytes ht hi hz hsize rfl rfl (by decide) v n (zs.map (.int k)) hs hown ad m c (ns.map (.int k)) hx (by simp [hm]) ?_ (by simp [Value.oneCell'])
      (by unfold maxLen; omega) ?_ hlo (fun v' w' h1 h2 _ h4 => h v' w' (by simpa using h1) h2 h4)
    · intro j u hu
      have hj : j < m := by
        rcases Nat.lt_or_ge j m with hj | hj
        · exact hj
        · rw [List.getElem?_eq_none (by simp [hm]; omega)] at hu; cases hu
      obtain ⟨b, off, he, _, hcell⟩ := hr.2 (by omega)
      simp only [Option.some.injEq] at he
      subst he
      rw [add_plain, hcell j hj]
      rw [List.getElem?_map, List.getElem?_eq_getElem (by omega)] at hu
      simp only [Option.map_some, Option.some.injEq] at hu
      rw [← hu]
      simp [List.getD_eq_getElem?_getD, hm, hj]
    · exact Nat.le_trans (Nat.mul_le_mul hmax hby) (by decide)
end Go.Proofs.YtdhdkhnefnbdgaaGreatDoor
namespace Go.Proofs.YtdhdkhnefnbdgaaGreatDoor
open Go.ChangeShapes Go.WideShapes Go.ChangeAt Go.RowKit
set_option linter.unusedVariables false

set_option maxRecDepth 100000 in
set_option maxHeartbeats 800000 in
theorem growNil (n : Nat) (w : World) (h0 : 0 < n) (h1 : n ≤ 1073741824) :
    Calls Tryz.prog 119 #[.slice none 0 0, .int .i64 n] w fun e w' => ∃ v, e = .returned v ∧ w'.ownsRow w.heap.size 3 1 v 0 [] ∧ Below w.heap.size w w' := by
  obtain ⟨i0, hi, hz0, hz1, hz2⟩ := info_parts infoI64
  have happ := Lib.run_append_nil_zeros (P := Tryz.prog) w 58 3 58 3 i0 (.int .i64 0) .i64 .i64 Tryz.underlying58 Tryz.underlying3 hi hz0 n h0 (by omega) (by omega) (by rw [hz2]; omega)
  obtain ⟨cap, hcap⟩ : ∃ cap, cap = grownCap w n 0 3 := ⟨_, rfl⟩
  have hge : n ≤ cap := by rw [hcap]; exact grownCap_ge w n 0 _
  have hle : cap ≤ maxLen := by rw [hcap]; exact grownCap_le_maxLen w n 0 _ (by unfold maxLen; omega)
  rw [← hcap] at happ
  obtain ⟨C, hC⟩ : ∃ C, C = Builtin.zeroCells (Value.int .i64 0).cells n ++ Builtin.zeroCells (Value.int .i64 0).cells (cap - n) := ⟨_, rfl⟩
  have hCs : C.size = cap * 1 := by rw [hC]; simp [size_zeroCells, Value.cells]; omega
  rw [← hC] at happ
  have HA := Lib.hid happ
  unfold maxLen at hle
  clear happ hC hcap
  go_enter Tryz.func119, Tryz.ntmps119
  go_wp2_with (at_builtin; refine Lib.wpList_append_run _ rfl (.tmp 20) (.tmp 21) 58 3 rfl _ _ rfl rfl _ _ HA.out ?_)
  go_ret
  refine ⟨_, rfl, ⟨rfl, .inr ⟨w.heap.size, cap, C, rfl, Nat.le_refl _, heap_alloc_new w.drew _, Nat.zero_le _, by unfold maxLen; omega, hCs, by simp⟩⟩, ?_⟩
  exact ((Below.refl _ _).alloc (Nat.le_refl _) _).drew

theorem flat_succ (P : List (List Int)) (k : Nat) (h : k < P.length) : (P.take (k + 1)).flatten = (P.take k).flatten ++ P.getD k [] := by
  rw [List.take_succ_eq_append_getElem h, List.flatten_append]
  simp [List.getD_eq_getElem?_getD, h]
theorem flat_len (P : List (List Int)) (k : Nat) : (P.take k).flatten.length ≤ P.flatten.length := by
  have h : P.flatten = (P.take k).flatten ++ (P.drop k).flatten := by rw [← List.flatten_append, List.take_append_drop]
  rw [h, List.length_append]
  omega

/-- Parts of a slice of slices. -/
def Parts (w : World) (b off : Nat) (P : List (List Int)) : Prop :=
  b < w.heap.size ∧ ∀ j, j < P.length → ∃ A n c, w.cell? ⟨b, off + j, none⟩ = some (.slice A n c) ∧ (A = none → c = 0) ∧ Has .i64 w w.heap.size A n (P.getD j [])
theorem Parts.below {w w' : World} {b off : Nat} {P : List (List Int)} (h : Parts w b off P) (hb : Below w.heap.size w w') : Parts w' b off P :=
  ⟨Nat.lt_of_lt_of_le h.1 hb.size, fun j hj => by
    obtain ⟨A, n, c, h1, h2, h3⟩ := h.2 j hj
    exact ⟨A, n, c, by rw [hb.cell h.1]; exact h1, h2, h3.next hb⟩⟩

set_option maxRecDepth 100000 in
set_option maxHeartbeats 1600000 in
theorem concatInts (b off cap : Nat) (P : List (List Int)) (w : World) (h : Parts w b off P) (hP : P.length ≤ 8) (h0 : 0 < P.flatten.length) (h1 : P.flatten.length ≤ 1073741824) :
    Calls Tryz.prog 118 #[.slice (some ⟨b, off, none⟩) P.length cap] w fun e w' => ∃ v, e = .returned v ∧ w'.ownsRow w.heap.size 3 1 v P.flatten.length (P.flatten.map (.int .i64)) ∧ Below w.heap.size w w' := by
  obtain ⟨m, hm⟩ : ∃ m, m = P.length := ⟨_, rfl⟩
  rw [← hm] at hP ⊢
  have HM := Lib.hid hm
  clear hm
  obtain ⟨N, hN⟩ : ∃ N, N = P.flatten.length := ⟨_, rfl⟩
  rw [← hN] at h0 h1 ⊢
  have HN := Lib.hid hN
  clear hN
  go_enter Tryz.func118, Tryz.ntmps118
  go_wp2
  go_loop [3, 11] (fun s i => ∃ k z : Nat, k ≤ m ∧ i = .int .i64 k ∧ Hid (z = (P.take k).flatten.length) ∧ s = .int .i64 z) (fun _ i => m - (intOf i).toNat)
  case atStart => exact ⟨0, 0, Nat.zero_le _, rfl, by simp [Hid], rfl⟩
  case round =>
    obtain ⟨k, z, hk, rfl, hz, rfl⟩ := hrel
    have hzN : z ≤ N := by rw [hz.out, HN.out]; exact flat_len P k
    by_cases hlt : k < m
    · obtain ⟨A, n, c, hc, hc0, hh⟩ := h.2 k (by rw [← HM.out]; exact hlt)
      have hs := flat_succ P k (by rw [← HM.out]; exact hlt)
      have hz' : Hid (z + n = (P.take (k + 1)).flatten.length) := by rw [hs, List.length_append, ← hz.out, hh.1]; rfl
      have hzN' : z + n ≤ N := by rw [hz'.out, HN.out]; exact flat_len P _
      clear hs
      go_wp2
      go_round
      case rel => exact ⟨k + 1, z + n, by omega, by go_num, hz', by go_num⟩
      case measure => simp [intOf]; omega
    · obtain rfl : k = m := by omega
      have hzz : z = N := by rw [hz.out, HN.out, HM.out, List.take_length]
      subst hzz
      go_wp2_with fail
      refine (growNil z w h0 h1).mono ?_
      rintro e w1 ⟨v, rfl, hown, hb1⟩
      go_wp2_with fail
      go_loopw [6, 27] (fun v i wr => ∃ k' z' : Nat, k' ≤ k ∧ i = .int .i64 k' ∧ z' ≤ z ∧ Hid (z' = (P.take k').flatten.length) ∧ wr.ownsRow w.heap.size 3 1 v z' ((P.take k').flatten.map (.int .i64)) ∧ Below w.heap.size w wr) (fun _ i _ => k - (intOf i).toNat)
      case atStart => exact ⟨0, 0, Nat.zero_le _, rfl, Nat.zero_le _, by simp [Hid], by simpa using hown, hb1⟩
      case round =>
        clear hown hb1
        obtain ⟨k', z', hk', rfl, hle, hz', hown, hb⟩ := hrel
        by_cases hlt' : k' < k
        · obtain ⟨A, n, c, hc, hc0, hh⟩ := (h.below hb).2 k' (by rw [← HM.out]; exact hlt')
          have hs := flat_succ P k' (by rw [← HM.out]; exact hlt')
          have hz'' : Hid (z' + n = (P.take (k' + 1)).flatten.length) := by rw [hs, List.length_append, ← hz'.out, hh.1]; rfl
          have hzN' : z' + n ≤ z := by rw [hz''.out, HN.out]; exact flat_len P _
          have hs' := Lib.hid hs
          clear hs
          obtain ⟨i0, hi, hz0, hz1, hz2⟩ := info_parts infoI64
          have hlo := hb.size
          go_wp2_with (at_builtin; refine wpList_app rfl (.tmp 31) (.tmp 32) 58 rfl w.heap.size 3 i0 Tryz.underlying58 hi hz0 hz1 (by rw [hz2]; decide) _ _ z' rfl hown A n c _ rfl hc0 hh (by omega) hlo ?_; intro v' w2 hown' hgr _)
          have hb2 := hb.grown hgr hlo (fun g hg => (hown.lt g hg).1)
          go_roundw
          case rel => exact ⟨k' + 1, z' + n, by omega, by go_num, hzN', hz'', by rw [hs'.out]; exact hown', hb2⟩
          case measure => simp [intOf]; omega
        · obtain rfl : k' = k := by omega
          have hfin : (P.take k').flatten = P.flatten := by rw [HM.out, List.take_length]
          obtain rfl : z' = z := by rw [hz'.out, hfin]; exact HN.out.symm
          rw [hfin] at hown
          have HO := Lib.hid hown
          clear hown hfin
          go_wp2
          go_ret
          exact ⟨_, rfl, HO.out, hb⟩
end Go.Proofs.YtdhdkhnefnbdgaaGreatDoor
namespace Go.Proofs.YtdhdkhnefnbdgaaGreatDoor
open Go.ChangeShapes Go.WideShapes Go.ChangeAt Go.RowKit
set_option linter.unusedVariables false
def modV (n m : Int) : Int := if 1 ≤ m ∧ m ≤ 1000000000000 then n % m else 0
theorem ret_int {a b : Int} (h : a = b) : Ending.returned (.int .i64 a) = .returned (.int .i64 b) := by rw [h]
theorem ret_bool {a b : Bool} (h : a = b) : Ending.returned (.bool a) = .returned (.bool b) := by rw [h]
theorem tmod_emod (a b : Int) (h : 0 < b) : a % b = if a.tmod b < 0 then a.tmod b + b else a.tmod b := by
  have h1 := Int.tmod_lt_of_pos a h
  have h2 := Int.lt_tmod_of_pos a h
  have h3 : a = b * a.tdiv b + a.tmod b := (Int.mul_tdiv_add_tmod a b).symm
  have h4 : a % b = a.tmod b % b := by
    have : (b * a.tdiv b + a.tmod b) % b = a.tmod b % b := by rw [Int.add_comm, Int.add_mul_emod_self_left]
    rw [← h3] at this; exact this
  rw [h4]
  by_cases c : a.tmod b < 0
  · rw [if_pos c, ← Int.add_emod_right]; exact Int.emod_eq_of_lt (by omega) (by omega)
  · rw [if_neg c]; exact Int.emod_eq_of_lt (by omega) h1

theorem implMod (a0 a1 : Int) (w : World) (h0 : -9223372036854775808 ≤ a0 ∧ a0 ≤ 9223372036854775807) (h1 : -9223372036854775808 ≤ a1 ∧ a1 ≤ 9223372036854775807) :
    Calls Tryz.prog 112 #[.int .i64 a0, .int .i64 a1] w fun e w' => e = .returned (.int .i64 (modV a0 a1)) ∧ w = w' := by
  obtain ⟨h0l, h0r⟩ := h0
  obtain ⟨h1l, h1r⟩ := h1
  by_cases c3 : 1 ≤ a1
  · by_cases c4 : a1 ≤ 1000000000000
    · have e1 := Int.tmod_lt_of_pos a0 (show 0 < a1 by omega)
      have e2 := Int.lt_tmod_of_pos a0 (show 0 < a1 by omega)
      have hv : modV a0 a1 = a0 % a1 := if_pos ⟨c3, c4⟩
      have et := tmod_emod a0 a1 (by omega)
      by_cases c5 : a0.tmod a1 < 0
      · have HV := Lib.hid (show modV a0 a1 = a0.tmod a1 + a1 by rw [hv, et, if_pos c5])
        have e3 : (a0.tmod a1 + a1) % a1 = a0.tmod a1 + a1 := Int.emod_eq_of_lt (by omega) (by omega)
        clear hv et
        go_enter Tryz.func112, Tryz.ntmps112
        go_wp2
        all_goals (go_ret; exact ⟨ret_int HV.out.symm, rfl⟩)
      · have c5' : 0 ≤ a0.tmod a1 := by omega
        have HV := Lib.hid (show modV a0 a1 = a0.tmod a1 by rw [hv, et, if_neg c5])
        have e3 : (a0.tmod a1 + a1) % a1 = a0.tmod a1 := by rw [Int.add_emod_right]; exact Int.emod_eq_of_lt (by omega) (by omega)
        clear hv et
        go_enter Tryz.func112, Tryz.ntmps112
        go_wp2
        all_goals (go_ret; exact ⟨ret_int HV.out.symm, rfl⟩)
    · have hv : modV a0 a1 = 0 := if_neg (by omega)
      have HV := Lib.hid hv
      clear hv
      have c4' : 1000000000000 < a1 := by omega
      go_enter Tryz.func112, Tryz.ntmps112
      go_wp2
      all_goals (go_ret; exact ⟨ret_int HV.out.symm, rfl⟩)
  · have hv : modV a0 a1 = 0 := if_neg (by omega)
    have HV := Lib.hid hv
    clear hv
    have c4' : a1 < 1 := by omega
    go_enter Tryz.func112, Tryz.ntmps112
    go_wp2
    all_goals (go_ret; exact ⟨ret_int HV.out.symm, rfl⟩)

theorem specMod (a0 a1 : Int) (w : World) (h0 : -9223372036854775808 ≤ a0 ∧ a0 ≤ 9223372036854775807) (h1 : -9223372036854775808 ≤ a1 ∧ a1 ≤ 9223372036854775807) :
    Calls Tryz.prog 113 #[.int .i64 a0, .int .i64 a1] w fun e w' => e = .returned (.int .i64 (modV a0 a1)) ∧ w = w' := by
  obtain ⟨h0l, h0r⟩ := h0
  obtain ⟨h1l, h1r⟩ := h1
  by_cases c3 : 1 ≤ a1
  · by_cases c4 : a1 ≤ 1000000000000
    · have e1 := Int.tmod_lt_of_pos a0 (show 0 < a1 by omega)
      have e2 := Int.lt_tmod_of_pos a0 (show 0 < a1 by omega)
      have hv : modV a0 a1 = a0 % a1 := if_pos ⟨c3, c4⟩
      have et := tmod_emod a0 a1 (by omega)
      by_cases c5 : a0.tmod a1 < 0
      · have HV := Lib.hid (show modV a0 a1 = a0.tmod a1 + a1 by rw [hv, et, if_pos c5])
        have e3 : (a0.tmod a1 + a1) % a1 = a0.tmod a1 + a1 := Int.emod_eq_of_lt (by omega) (by omega)
        clear hv et
        go_enter Tryz.func113, Tryz.ntmps113
        go_wp2
        all_goals (go_ret; exact ⟨by first | exact ret_int HV.out.symm | exact ret_int (e3.trans HV.out.symm), rfl⟩)
      · have c5' : 0 ≤ a0.tmod a1 := by omega
        have HV := Lib.hid (show modV a0 a1 = a0.tmod a1 by rw [hv, et, if_neg c5])
        have e3 : (a0.tmod a1 + a1) % a1 = a0.tmod a1 := by rw [Int.add_emod_right]; exact Int.emod_eq_of_lt (by omega) (by omega)
        clear hv et
        go_enter Tryz.func113, Tryz.ntmps113
        go_wp2
        all_goals (go_ret; exact ⟨by first | exact ret_int HV.out.symm | exact ret_int (e3.trans HV.out.symm), rfl⟩)
    · have hv : modV a0 a1 = 0 := if_neg (by omega)
      have HV := Lib.hid hv
      clear hv
      have c4' : 1000000000000 < a1 := by omega
      go_enter Tryz.func113, Tryz.ntmps113
      go_wp2
      all_goals (go_ret; exact ⟨by first | exact ret_int HV.out.symm | exact ret_int (e3.trans HV.out.symm), rfl⟩)
  · have hv : modV a0 a1 = 0 := if_neg (by omega)
    have HV := Lib.hid hv
    clear hv
    have c4' : a1 < 1 := by omega
    go_enter Tryz.func113, Tryz.ntmps113
    go_wp2
    all_goals (go_ret; exact ⟨by first | exact ret_int HV.out.symm | exact ret_int (e3.trans HV.out.symm), rfl⟩)
end Go.Proofs.YtdhdkhnefnbdgaaGreatDoor
namespace Go.Proofs.YtdhdkhnefnbdgaaGreatDoor
open Go.ChangeShapes Go.WideShapes Go.ChangeAt Go.RowKit
set_option linter.unusedVariables false
def addM (b s : Int) : Int := if 0 ≤ b ∧ b ≤ 2147483646 ∧ 0 ≤ s ∧ s ≤ 2147483646 then (b + s) % 2147483647 else 0
def subM (b s : Int) : Int := if 0 ≤ b ∧ b ≤ 2147483646 ∧ 0 ≤ s ∧ s ≤ 2147483646 then (b - s) % 2147483647 else 0
def keyB (k : Int) : Bool := if 1 ≤ k ∧ k ≤ 2147483646 then true else false
theorem tmod_small {x p : Int} (h1 : x < 0) (h2 : -p < x) : x.tmod p = x := by
  have h3 : (-x).tmod p = -x := Int.tmod_eq_of_lt (by omega) (by omega)
  rw [Int.neg_tmod] at h3
  omega
theorem implAddMod (b s : Int) (w : World) :
    Calls Tryz.prog 109 #[.int .i64 b, .int .i64 s] w fun e w' => e = .returned (.int .i64 (addM b s)) ∧ w = w' := by
  by_cases cl1 : 0 ≤ b
  · by_cases ch1 : b ≤ 2147483646
    · have dh1 : decide (b ≤ 2147483646) = true := by simp; omega
      by_cases cl2 : 0 ≤ s
      · by_cases ch2 : s ≤ 2147483646
        · have dh2 : decide (s ≤ 2147483646) = true := by simp; omega
          have hv : addM b s = (b + s) % 2147483647 := if_pos ⟨by omega, by omega, by omega, by omega⟩
          have HV := Lib.hid hv
          clear hv
          go_enter Tryz.func109, Tryz.ntmps109
          go_wp2_with go_in
          all_goals (go_ret; exact ⟨ret_int HV.out.symm, rfl⟩)
        · have dh2 : decide (s ≤ 2147483646) = false := by simp; omega
          have hv : addM b s = 0 := if_neg (by omega)
          have HV := Lib.hid hv
          clear hv
          go_enter Tryz.func109, Tryz.ntmps109
          go_wp2_with go_in
          all_goals (go_ret; exact ⟨ret_int HV.out.symm, rfl⟩)
      · have dl2 : s < 0 := by omega
        have hv : addM b s = 0 := if_neg (by omega)
        have HV := Lib.hid hv
        clear hv
        go_enter Tryz.func109, Tryz.ntmps109
        go_wp2_with go_in
        all_goals (go_ret; exact ⟨ret_int HV.out.symm, rfl⟩)
    · have dh1 : decide (b ≤ 2147483646) = false := by simp; omega
      have hv : addM b s = 0 := if_neg (by omega)
      have HV := Lib.hid hv
      clear hv
      go_enter Tryz.func109, Tryz.ntmps109
      go_wp2_with go_in
      all_goals (go_ret; exact ⟨ret_int HV.out.symm, rfl⟩)
  · have dl1 : b < 0 := by omega
    have hv : addM b s = 0 := if_neg (by omega)
    have HV := Lib.hid hv
    clear hv
    go_enter Tryz.func109, Tryz.ntmps109
    go_wp2_with go_in
    all_goals (go_ret; exact ⟨ret_int HV.out.symm, rfl⟩)
theorem specAddMod (b s : Int) (w : World) :
    Calls Tryz.prog 104 #[.int .i64 b, .int .i64 s] w fun e w' => e = .returned (.int .i64 (addM b s)) ∧ w = w' := by
  by_cases cl1 : 0 ≤ b
  · by_cases ch1 : b ≤ 2147483646
    · have dh1 : decide (b ≤ 2147483646) = true := by simp; omega
      by_cases cl2 : 0 ≤ s
      · by_cases ch2 : s ≤ 2147483646
        · have dh2 : decide (s ≤ 2147483646) = true := by simp; omega
          have hv : addM b s = (b + s) % 2147483647 := if_pos ⟨by omega, by omega, by omega, by omega⟩
          have HV := Lib.hid hv
          clear hv
          go_enter Tryz.func104, Tryz.ntmps104
          go_wp2_with go_in
          all_goals (go_ret; exact ⟨ret_int HV.out.symm, rfl⟩)
        · have dh2 : decide (s ≤ 2147483646) = false := by simp; omega
          have hv : addM b s = 0 := if_neg (by omega)
          have HV := Lib.hid hv
          clear hv
          go_enter Tryz.func104, Tryz.ntmps104
          go_wp2_with go_in
          all_goals (go_ret; exact ⟨ret_int HV.out.symm, rfl⟩)
      · have dl2 : s < 0 := by omega
        have hv : addM b s = 0 := if_neg (by omega)
        have HV := Lib.hid hv
        clear hv
        go_enter Tryz.func104, Tryz.ntmps104
        go_wp2_with go_in
        all_goals (go_ret; exact ⟨ret_int HV.out.symm, rfl⟩)
    · have dh1 : decide (b ≤ 2147483646) = false := by simp; omega
      have hv : addM b s = 0 := if_neg (by omega)
      have HV := Lib.hid hv
      clear hv
      go_enter Tryz.func104, Tryz.ntmps104
      go_wp2_with go_in
      all_goals (go_ret; exact ⟨ret_int HV.out.symm, rfl⟩)
  · have dl1 : b < 0 := by omega
    have hv : addM b s = 0 := if_neg (by omega)
    have HV := Lib.hid hv
    clear hv
    go_enter Tryz.func104, Tryz.ntmps104
    go_wp2_with go_in
    all_goals (go_ret; exact ⟨ret_int HV.out.symm, rfl⟩)
end Go.Proofs.YtdhdkhnefnbdgaaGreatDoor
namespace Go.Proofs.YtdhdkhnefnbdgaaGreatDoor
open Go.ChangeShapes Go.WideShapes Go.ChangeAt Go.RowKit
set_option linter.unusedVariables false
def digN (zs : List Int) : Nat → Int
  | 0 => 7
  | k + 1 => (digN zs k * 1000003 + modV (zs.getD k 0) 2147483647 + 11) % 2147483647
theorem digN_bd (zs : List Int) (k : Nat) : 0 ≤ digN zs k ∧ digN zs k ≤ 2147483646 := by
  cases k with
  | zero => simp [digN]
  | succ k => simp only [digN]; omega
theorem modV_bd (x : Int) : 0 ≤ modV x 2147483647 ∧ modV x 2147483647 ≤ 2147483646 := by
  have : modV x 2147483647 = x % 2147483647 := if_pos (by omega)
  omega
theorem modV_of (x : Int) : modV x 2147483647 = x % 2147483647 := if_pos (by omega)
theorem fit_at {zs : List Int} (h : ∀ z ∈ zs, (Lit.int .i64 z).wf = true) {i : Nat} (hi : i < zs.length) : -9223372036854775808 ≤ zs.getD i 0 ∧ zs.getD i 0 ≤ 9223372036854775807 := by
  have : zs.getD i 0 ∈ zs := by
    rw [List.getD_eq_getElem?_getD, List.getElem?_eq_getElem hi]
    exact List.getElem_mem _
  exact i64_of (h _ this)

set_option maxRecDepth 100000 in
set_option maxHeartbeats 800000 in
theorem specDigest (a : Option Addr) (n c B : Nat) (zs : List Int) (w : World) (h : Has .i64 w B a n zs) (hf : ∀ z ∈ zs, (Lit.int .i64 z).wf = true) (hn : n ≤ 16777216) :
    Calls Tryz.prog 110 #[.slice a n c] w fun e w' => e = .returned (.int .i64 (digN zs n)) ∧ w = w' := by
  have HF := Lib.hid hf
  clear hf
  go_enter Tryz.func110, Tryz.ntmps110
  go_wp2
  go_loop [3, 4] (fun s i => ∃ k : Nat, k ≤ n ∧ i = .int .i64 k ∧ s = .int .i64 (digN zs k)) (fun _ i => n - (intOf i).toNat)
  case atStart => exact ⟨0, Nat.zero_le _, rfl, rfl⟩
  case round =>
    obtain ⟨k, hk, rfl, rfl⟩ := hrel
    obtain ⟨d0, d1⟩ := digN_bd zs k
    by_cases hlt : k < n
    · obtain ⟨b, off, z, rfl, hb, hz, hc⟩ := h.at_ hlt
      have hzb : -9223372036854775808 ≤ z ∧ z ≤ 9223372036854775807 := by rw [hz.out]; exact fit_at HF.out (by rw [h.1]; exact hlt)
      obtain ⟨m0, m1⟩ := modV_bd z
      obtain ⟨m, hm⟩ : ∃ m, m = modV z 2147483647 := ⟨_, rfl⟩
      rw [← hm] at m0 m1
      have HM := Lib.hid hm
      clear hm
      obtain ⟨d, hd⟩ : ∃ d, d = digN zs k := ⟨_, rfl⟩
      rw [← hd] at d0 d1 ⊢
      have HD := Lib.hid hd
      clear hd
      go_wp2_with fail
      refine (specMod _ _ _ (by omega) (by omega)).mono ?_
      rintro e w1 ⟨he, rfl⟩
      rw [← HM.out] at he
      subst he
      go_wp2_with fail
      go_round
      case rel => exact ⟨k + 1, by omega, by go_num, by rw [show digN zs (k + 1) = (digN zs k * 1000003 + modV (zs.getD k 0) 2147483647 + 11) % 2147483647 from rfl, ← hz.out, ← HM.out, ← HD.out]⟩
      case measure => simp [intOf]; omega
    · obtain rfl : k = n := by omega
      go_wp2
      go_ret
      exact ⟨rfl, rfl⟩

set_option maxRecDepth 100000 in
set_option maxHeartbeats 800000 in
theorem implDigest (a : Option Addr) (n c B : Nat) (zs : List Int) (w : World) (h : Has .i64 w B a n zs) (hf : ∀ z ∈ zs, (Lit.int .i64 z).wf = true) (hn : n ≤ 16777216) :
    Calls Tryz.prog 117 #[.slice a n c] w fun e w' => e = .returned (.int .i64 (digN zs n)) ∧ w = w' := by
  have HF := Lib.hid hf
  clear hf
  go_enter Tryz.func117, Tryz.ntmps117
  go_wp2
  go_loop [3, 8] (fun s i => ∃ k : Nat, k ≤ n ∧ i = .int .i64 k ∧ s = .int .i64 (digN zs k)) (fun _ i => n - (intOf i).toNat)
  case atStart => exact ⟨0, Nat.zero_le _, rfl, rfl⟩
  case round =>
    obtain ⟨k, hk, rfl, rfl⟩ := hrel
    obtain ⟨d0, d1⟩ := digN_bd zs k
    by_cases hlt : k < n
    · obtain ⟨b, off, z, rfl, hb, hz, hc⟩ := h.at_ hlt
      have hzb : -9223372036854775808 ≤ z ∧ z ≤ 9223372036854775807 := by rw [hz.out]; exact fit_at HF.out (by rw [h.1]; exact hlt)
      obtain ⟨m0, m1⟩ := modV_bd z
      obtain ⟨m, hm⟩ : ∃ m, m = modV z 2147483647 := ⟨_, rfl⟩
      rw [← hm] at m0 m1
      have HM := Lib.hid hm
      clear hm
      obtain ⟨d, hd⟩ : ∃ d, d = digN zs k := ⟨_, rfl⟩
      rw [← hd] at d0 d1 ⊢
      have HD := Lib.hid hd
      clear hd
      go_wp2_with fail
      refine (implMod _ _ _ (by omega) (by omega)).mono ?_
      rintro e w1 ⟨he, rfl⟩
      rw [← HM.out] at he
      subst he
      go_wp2_with fail
      refine (implMod _ _ _ (by omega) (by omega)).mono ?_
      rintro e w1 ⟨rfl, rfl⟩
      go_wp2_with fail
      go_round
      case rel => exact ⟨k + 1, by omega, by go_num, by rw [show digN zs (k + 1) = (digN zs k * 1000003 + modV (zs.getD k 0) 2147483647 + 11) % 2147483647 from rfl, ← hz.out, ← HM.out, ← HD.out, ← modV_of]⟩
      case measure => simp [intOf]; omega
    · obtain rfl : k = n := by omega
      go_wp2
      go_ret
      exact ⟨rfl, rfl⟩

end Go.Proofs.YtdhdkhnefnbdgaaGreatDoor
