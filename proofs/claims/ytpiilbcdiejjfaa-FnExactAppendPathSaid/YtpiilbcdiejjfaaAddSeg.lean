
/- AppendSegment of both sides. -/
import Derived.Test.YtpiilbcdiejjfaaAddHop
import Derived.Test.YtpiilbcdiejjfaaEncable
namespace Go.Proofs.Ytpiilbcdiejjfaa
open Go.ChangeShapes Go.WideShapes Go.ChangeAt Go.RowKit
set_option linter.unusedVariables false
set_option maxRecDepth 100000 in
set_option maxHeartbeats 4000000 in
theorem implAppSeg (x0 x1 : Int) (a3 : Option Addr) (n3 c3 B : Nat) (zs : List THop) (a : Option Addr) (n c : Nat) (bs : List Int) (w : World) (hs : HasHop w B a3 n3 zs) (hB : B ≤ w.heap.size) (hn3 : n3 ≤ 1048576) (h : Has .u8 w w.heap.size a n bs) (hc0 : a = none → c = 0) (hn : n ≤ 134217728) :
    Calls Try.prog 28 #[.slice a n c, .agg #[.int .i64 x0, .int .i64 x1, .slice a3 n3 c3]] w (OutB w (bs ++ segBytes x0 x1 zs n3)) := by
  have M0 := Mk.alloc w (Obj.cells #[Value.int .i64 x0, Value.int .i64 x1, Value.slice a3 n3 c3] 43)
  have hl := h.1
  have HL := Lib.hid hl
  clear hl
  have HC := Lib.hid hc0
  clear hc0
  have hs1 : (w.alloc (Obj.cells #[Value.int .i64 x0, Value.int .i64 x1, Value.slice a3 n3 c3] 43)).heap.size = w.heap.size + 1 := by rw [World.size_alloc]
  have hu1 := h.next M0.below0
  have k0 : (w.alloc (Obj.cells #[Value.int .i64 x0, Value.int .i64 x1, Value.slice a3 n3 c3] 43)).cell? ⟨w.heap.size, 0, none⟩ = some (.int .i64 x0) := by simp [go_sem]
  have k1 : (w.alloc (Obj.cells #[Value.int .i64 x0, Value.int .i64 x1, Value.slice a3 n3 c3] 43)).cell? ⟨w.heap.size, 1, none⟩ = some (.int .i64 x1) := by simp [go_sem]
  have k2 : (w.alloc (Obj.cells #[Value.int .i64 x0, Value.int .i64 x1, Value.slice a3 n3 c3] 43)).cell? ⟨w.heap.size, 2, none⟩ = some (.slice a3 n3 c3) := by simp [go_sem]
  have IH := Lib.hid (fun (w' : World) (m : Mk0 (w.alloc (Obj.cells #[Value.int .i64 x0, Value.int .i64 x1, Value.slice a3 n3 c3] 43)) w') => And.intro (m.cellAt k0) (And.intro (m.cellAt k1) (m.cellAt k2)))
  have ROW := fun (w' : World) (m : Mk0 (w.alloc (Obj.cells #[Value.int .i64 x0, Value.int .i64 x1, Value.slice a3 n3 c3] 43)) w') => hs.mk (M0.trans m) hB (.inr (Nat.le_refl _))
  have hBB : ∀ w', Mk0 (w.alloc (Obj.cells #[Value.int .i64 x0, Value.int .i64 x1, Value.slice a3 n3 c3] 43)) w' → B ≤ w'.heap.size := fun w' m => Nat.le_trans hB (M0.trans m).size
  clear k0 k1 k2 h
  cases hv : encB x0 x1 zs n3 with
  | false =>
    have hr : segBytes x0 x1 zs n3 = [] := by simp [segBytes, hv]
    rw [hr]
    clear hr
    have HV := Lib.hid hv
    clear hv
    go_enter Try.func28, Try.ntmps28
    go_wp2_with fail
    refine (cloneAny a n c bs _ hu1 HC.out (by omega)).mono ?_
    rintro e w1 hob
    obtain ⟨v1, rfl, ob1, m1⟩ := OwB.of hob
    obtain ⟨d0, d1, d2⟩ := IH.out _ m1
    have MM := m1
    go_wp2_with fail
    refine ((implEnc x0 x1 a3 n3 c3 B zs _ (ROW _ MM) (hBB _ MM) hn3).mono fun e w' h => by rw [HV.out] at h; exact h).mono ?_
    rintro e w2 ⟨rfl, m2⟩
    have ob2 := ob1.kept m2
    have M2 := m1.trans m2
    clear d0 d1 d2 MM
    obtain ⟨d0, d1, d2⟩ := IH.out _ M2
    go_wp2_with fail
    go_ret
    exact OwB.out (by rw [List.append_nil]; exact ob2.low M0.size) (M0.trans M2)
  | true =>
    have hr : segBytes x0 x1 zs n3 = encL [x0, x1, (n3 : Int)] ++ hopsB zs n3 := by simp [segBytes, hv]
    rw [hr]
    clear hr
    have h8 := encB_le hv
    have HV := Lib.hid hv
    clear hv
    go_enter Try.func28, Try.ntmps28
    go_wp2_with fail
    refine (cloneAny a n c bs _ hu1 HC.out (by omega)).mono ?_
    rintro e w1 hob
    obtain ⟨v1, rfl, ob1, m1⟩ := OwB.of hob
    obtain ⟨d0, d1, d2⟩ := IH.out _ m1
    have MM := m1
    go_wp2_with fail
    refine ((implEnc x0 x1 a3 n3 c3 B zs _ (ROW _ MM) (hBB _ MM) hn3).mono fun e w' h => by rw [HV.out] at h; exact h).mono ?_
    rintro e w2 ⟨rfl, m2⟩
    have ob2 := ob1.kept m2
    have M2 := m1.trans m2
    clear d0 d1 d2 MM
    obtain ⟨d0, d1, d2⟩ := IH.out _ M2
    have ol := own_lit w2 3 ([x0, x1, (n3 : Int)].map (.int .i64)) (by simp)
    have oR : OwnR 1 (icell .i64) (w2.alloc (.cells #[.int .i64 x0, .int .i64 x1, .int .i64 n3] 3)) w2.heap.size (w2.alloc (.cells #[.int .i64 x0, .int .i64 x1, .int .i64 n3] 3)).heap.size (some ⟨w2.heap.size, 0, none⟩) 3 [x0, x1, (n3 : Int)] := (ownsRow_own (k := .i64) (zs := [x0, x1, (n3 : Int)]) ol).toR (Nat.le_refl _)
    have MA : Mk0 (w.alloc (Obj.cells #[Value.int .i64 x0, Value.int .i64 x1, Value.slice a3 n3 c3] 43)) (w2.alloc (.cells #[.int .i64 x0, .int .i64 x1, .int .i64 n3] 3)) := M2.new _
    have obA := ob2.kept (Mk.alloc w2 (.cells #[.int .i64 x0, .int .i64 x1, .int .i64 n3] 3))
    have hzA : (w2.alloc (.cells #[.int .i64 x0, .int .i64 x1, .int .i64 n3] 3)).heap.size = w2.heap.size + 1 := by rw [World.size_alloc]
    have hlt0 : ∀ q, v1.ownBlock = some q → q < w2.heap.size ∨ (w2.alloc (.cells #[.int .i64 x0, .int .i64 x1, .int .i64 n3] 3)).heap.size ≤ q := fun q e => .inl (ob2.lt q e).2
    have HT := Lib.hid hlt0
    clear hlt0 ol ob1 ob2
    have hzM := MA.size
    go_wp2_with fail
    generalize w2.alloc (.cells #[.int .i64 x0, .int .i64 x1, .int .i64 n3] 3) = wA at *
    go_loopw [0, 24] (fun u i wr => ∃ k : Nat, k ≤ 3 ∧ i = .int .i64 k ∧ OwB (w.alloc (Obj.cells #[Value.int .i64 x0, Value.int .i64 x1, Value.slice a3 n3 c3] 43)).heap.size u (bs ++ encN [x0, x1, (n3 : Int)] k) wr ∧ Gro v1 u wA wr) (fun _ i _ => 3 - (intOf i).toNat)
    case atStart => exact ⟨0, Nat.zero_le _, rfl, by simpa [encN] using obA, Gro.refl _ _⟩
    case round =>
      obtain ⟨k, hk, rfl, ho, hG⟩ := hrel
      have hzr := hG.size
      have MR := obA.gro0 MA hG
      have hzR := MR.size
      by_cases hlt : k < 3
      · have oR' := hG.row oR HT.out (Nat.le_refl _)
        obtain ⟨b, off, z, hbe, hbs, hz', hcell⟩ := (hasR_int.1 oR'.has).at_ hlt
        obtain ⟨rfl, rfl⟩ : w2.heap.size = b ∧ 0 = off := by injection hbe with e; injection e with e1 e2; exact ⟨e1, e2⟩
        rw [Nat.zero_add] at hcell
        have hen := encN_len [x0, x1, (n3 : Int)] k
        have hlen : (bs ++ encN [x0, x1, (n3 : Int)] k).length ≤ 1073741800 := by rw [List.length_append, HL.out]; omega
        have hstep : bs ++ encN [x0, x1, (n3 : Int)] (k + 1) = (bs ++ encN [x0, x1, (n3 : Int)] k) ++ vb z := by rw [hz'.out, List.append_assoc]; rfl
        have HS := Lib.hid hstep
        clear hstep hen oR' hbe
        go_wp2_with fail
        refine (addVarintB _ _ _ _ _ ho MR.size hlen).mono ?_
        rintro e w3 ⟨u', rfl, ho2, g2⟩
        go_wp2_with fail
        go_roundw
        case rel => exact ⟨k + 1, by omega, by go_num, by rw [HS.out]; exact ho2, hG.trans g2⟩
        case measure => simp [intOf]; omega
      · obtain rfl : k = 3 := by omega
        obtain ⟨d0, d1, d2⟩ := IH.out _ MR
        clear obA oR HT hG
        go_wp2_with fail
        go_loopw [0, 35] (fun u i wr => ∃ k : Nat, k ≤ n3 ∧ i = .int .i64 k ∧ OwB (w.alloc (Obj.cells #[Value.int .i64 x0, Value.int .i64 x1, Value.slice a3 n3 c3] 43)).heap.size u (bs ++ encN [x0, x1, (n3 : Int)] 3 ++ hopsB zs k) wr ∧ Mk0 (w.alloc (Obj.cells #[Value.int .i64 x0, Value.int .i64 x1, Value.slice a3 n3 c3] 43)) wr) (fun _ i _ => n3 - (intOf i).toNat)
        case atStart => exact ⟨0, Nat.zero_le _, rfl, by simpa [hopsB] using ho, MR⟩
        case round =>
          clear ho MR d0 d1 d2
          obtain ⟨k, hk, rfl, ho, MR⟩ := hrel
          by_cases hlt : k < n3
          · obtain ⟨b, off, x, rfl, hb, hx, d0, d1, d2, d3, d4⟩ := HasHop.at _ _ _ _ _ _ (ROW _ MR) hlt
            have hbr := World.block_lt_of_cell? _ _ d0
            simp only at hbr
            have hen := encN_len [x0, x1, (n3 : Int)] 3
            have hhl := hopsB_len zs k
            have hlen : (bs ++ encN [x0, x1, (n3 : Int)] 3 ++ hopsB zs k).length ≤ 1073741700 := by rw [List.length_append, List.length_append, HL.out]; omega
            have hstep : bs ++ encN [x0, x1, (n3 : Int)] 3 ++ hopsB zs (k + 1) = (bs ++ encN [x0, x1, (n3 : Int)] 3 ++ hopsB zs k) ++ hopBytes x := by rw [hx.out, List.append_assoc (bs ++ encN [x0, x1, (n3 : Int)] 3)]; rfl
            have HS := Lib.hid hstep
            clear hstep hen hhl
            go_wp2_with fail
            refine (implAddHop x _ _ _ _ (ho.kept (Mk.alloc _ _)) (MR.new _).size hlen).mono ?_
            rintro e w3 ⟨u', rfl, ho2, g2⟩
            go_wp2_with fail
            go_roundw
            case rel => (repeat apply Exists.intro); exact ⟨⟨k + 1, by omega, by go_num, by rw [HS.out]; exact ho2, (ho.kept (Mk.alloc _ _)).gro0 (MR.new _) g2⟩, rfl⟩
            case measure => simp [intOf]; omega
          · obtain rfl : n3 = k := by omega
            go_wp2_with fail
            go_ret
            exact OwB.out (by rw [← encN_all [x0, x1, (n3 : Int)] 3 rfl, ← List.append_assoc]; exact ho.low M0.size) (M0.trans MR)

set_option maxRecDepth 100000 in
set_option maxHeartbeats 4000000 in
theorem specAppSeg (x0 x1 : Int) (a3 : Option Addr) (n3 c3 B : Nat) (zs : List THop) (a : Option Addr) (n c : Nat) (bs : List Int) (w : World) (hs : HasHop w B a3 n3 zs) (hB : B ≤ w.heap.size) (hn3 : n3 ≤ 1048576) (h : Has .u8 w w.heap.size a n bs) (hc0 : a = none → c = 0) (hn : n ≤ 134217728) :
    Calls Try.prog 26 #[.slice a n c, .agg #[.int .i64 x0, .int .i64 x1, .slice a3 n3 c3]] w (OutB w (bs ++ segBytes x0 x1 zs n3)) := by
  have M0 := Mk.alloc w (Obj.cells #[Value.int .i64 x0, Value.int .i64 x1, Value.slice a3 n3 c3] 43)
  have hl := h.1
  have HL := Lib.hid hl
  clear hl
  have HC := Lib.hid hc0
  clear hc0
  have hs1 : (w.alloc (Obj.cells #[Value.int .i64 x0, Value.int .i64 x1, Value.slice a3 n3 c3] 43)).heap.size = w.heap.size + 1 := by rw [World.size_alloc]
  have hu1 := h.next M0.below0
  have k0 : (w.alloc (Obj.cells #[Value.int .i64 x0, Value.int .i64 x1, Value.slice a3 n3 c3] 43)).cell? ⟨w.heap.size, 0, none⟩ = some (.int .i64 x0) := by simp [go_sem]
  have k1 : (w.alloc (Obj.cells #[Value.int .i64 x0, Value.int .i64 x1, Value.slice a3 n3 c3] 43)).cell? ⟨w.heap.size, 1, none⟩ = some (.int .i64 x1) := by simp [go_sem]
  have k2 : (w.alloc (Obj.cells #[Value.int .i64 x0, Value.int .i64 x1, Value.slice a3 n3 c3] 43)).cell? ⟨w.heap.size, 2, none⟩ = some (.slice a3 n3 c3) := by simp [go_sem]
  have IH := Lib.hid (fun (w' : World) (m : Mk0 (w.alloc (Obj.cells #[Value.int .i64 x0, Value.int .i64 x1, Value.slice a3 n3 c3] 43)) w') => And.intro (m.cellAt k0) (And.intro (m.cellAt k1) (m.cellAt k2)))
  have ROW := fun (w' : World) (m : Mk0 (w.alloc (Obj.cells #[Value.int .i64 x0, Value.int .i64 x1, Value.slice a3 n3 c3] 43)) w') => hs.mk (M0.trans m) hB (.inr (Nat.le_refl _))
  have hBB : ∀ w', Mk0 (w.alloc (Obj.cells #[Value.int .i64 x0, Value.int .i64 x1, Value.slice a3 n3 c3] 43)) w' → B ≤ w'.heap.size := fun w' m => Nat.le_trans hB (M0.trans m).size
  clear k0 k1 k2 h
  have obn : OwB (w.alloc (Obj.cells #[Value.int .i64 x0, Value.int .i64 x1, Value.slice a3 n3 c3] 43)).heap.size (.slice (some ⟨w.heap.size + 1, 0, none⟩) 0 0) [] ((w.alloc (Obj.cells #[Value.int .i64 x0, Value.int .i64 x1, Value.slice a3 n3 c3] 43)).alloc (Obj.cells #[] 5)) := by rw [← hs1]; exact OwB.nil _
  have ob0 := obn.low (lo' := w.heap.size + 1) (by omega)
  have hu := hu1.alloc (Obj.cells #[] 5)
  have hzlo : w.heap.size + 1 ≤ ((w.alloc (Obj.cells #[Value.int .i64 x0, Value.int .i64 x1, Value.slice a3 n3 c3] 43)).alloc (Obj.cells #[] 5)).heap.size := by rw [World.size_alloc, hs1]; omega
  cases hv : encB x0 x1 zs n3 with
  | false =>
    have hr : segBytes x0 x1 zs n3 = [] := by simp [segBytes, hv]
    rw [hr]
    clear hr
    have HV := Lib.hid hv
    clear hv
    go_enter Try.func26, Try.ntmps26
    go_wp2_with (at_builtin; refine wpList_appB rfl (.tmp 7) (.tmp 8) rfl (w.heap.size + 1) (.slice (some ⟨w.heap.size + 1, 0, none⟩) 0 0) [] rfl ob0 a n c bs rfl HC.out hu (by simp only [List.length_nil]; omega) hzlo ?_; intro v1 w1 ob1 g1; have mU := obn.gro0 (Mk.alloc (w.alloc (Obj.cells #[Value.int .i64 x0, Value.int .i64 x1, Value.slice a3 n3 c3] 43)) (Obj.cells #[] 5)) g1; obtain ⟨d0, d1, d2⟩ := IH.out _ mU)
    have obW : OwB (w.alloc (Obj.cells #[Value.int .i64 x0, Value.int .i64 x1, Value.slice a3 n3 c3] 43)).heap.size v1 ([] ++ bs) w1 := by rw [hs1]; exact ob1
    have ob2 := ob1.low (lo' := w.heap.size) (Nat.le_succ _)
    rw [List.nil_append] at ob2
    rw [List.nil_append] at obW
    clear ob1 g1
    have MM := mU
    refine ((specEnc x0 x1 a3 n3 c3 B zs _ (ROW _ MM) (hBB _ MM) hn3).mono fun e w' h => by rw [HV.out] at h; exact h).mono ?_
    rintro e w2 ⟨rfl, m2⟩
    have ob3 := ob2.kept m2
    replace obW := obW.kept m2
    have M2 := mU.trans m2
    clear ob2 d0 d1 d2 MM
    obtain ⟨d0, d1, d2⟩ := IH.out _ M2
    go_wp2_with fail
    go_ret
    exact OwB.out (by rw [List.append_nil]; exact ob3) (M0.trans M2)
  | true =>
    have hr : segBytes x0 x1 zs n3 = encL [x0, x1, (n3 : Int)] ++ hopsB zs n3 := by simp [segBytes, hv]
    rw [hr]
    clear hr
    have h8 := encB_le hv
    have HV := Lib.hid hv
    clear hv
    go_enter Try.func26, Try.ntmps26
    go_wp2_with (at_builtin; refine wpList_appB rfl (.tmp 7) (.tmp 8) rfl (w.heap.size + 1) (.slice (some ⟨w.heap.size + 1, 0, none⟩) 0 0) [] rfl ob0 a n c bs rfl HC.out hu (by simp only [List.length_nil]; omega) hzlo ?_; intro v1 w1 ob1 g1; have mU := obn.gro0 (Mk.alloc (w.alloc (Obj.cells #[Value.int .i64 x0, Value.int .i64 x1, Value.slice a3 n3 c3] 43)) (Obj.cells #[] 5)) g1; obtain ⟨d0, d1, d2⟩ := IH.out _ mU)
    have obW : OwB (w.alloc (Obj.cells #[Value.int .i64 x0, Value.int .i64 x1, Value.slice a3 n3 c3] 43)).heap.size v1 ([] ++ bs) w1 := by rw [hs1]; exact ob1
    have ob2 := ob1.low (lo' := w.heap.size) (Nat.le_succ _)
    rw [List.nil_append] at ob2
    rw [List.nil_append] at obW
    clear ob1 g1
    have MM := mU
    refine ((specEnc x0 x1 a3 n3 c3 B zs _ (ROW _ MM) (hBB _ MM) hn3).mono fun e w' h => by rw [HV.out] at h; exact h).mono ?_
    rintro e w2 ⟨rfl, m2⟩
    have ob3 := ob2.kept m2
    replace obW := obW.kept m2
    have M2 := mU.trans m2
    clear ob2 d0 d1 d2 MM
    obtain ⟨d0, d1, d2⟩ := IH.out _ M2
    have hh := lit_has w2 3 [x0, x1, (n3 : Int)] 3 rfl
    go_wp2_with fail
    refine (specEncodeInts (some ⟨w2.heap.size, 0, none⟩) 3 3 [x0, x1, (n3 : Int)] _ hh (by omega)).mono ?_
    rintro e w3 hob
    obtain ⟨v3, rfl, ob4, m4⟩ := OwB.of hob
    have m4' : Mk0 w2 w3 := (Mk.alloc _ _).trans m4
    have m3 := M2.trans m4'
    replace ob3 := ob3.kept m4'
    replace obW := obW.kept m4'
    obtain ⟨A, L, cc, rfl, hcc, hA, hLL⟩ := ob4.slice
    have hen := encN_len [x0, x1, (n3 : Int)] 3
    have hL5 : L ≤ 18 := by rw [hLL.out]; omega
    have M3 := M0.trans m3
    have hz3 := M3.size
    clear d0 d1 d2 hh
    go_wp2_with (at_builtin; refine wpList_appB rfl (.tmp 14) (.tmp 23) rfl w.heap.size v1 bs rfl ob3 A L cc (encN [x0, x1, (n3 : Int)] 3) rfl hcc hA (by rw [HL.out]; omega) hz3 ?_; intro v5 w5 ob5 g5)
    have MR5 : Mk0 (w.alloc (Obj.cells #[Value.int .i64 x0, Value.int .i64 x1, Value.slice a3 n3 c3] 43)) w5 := obW.gro0 m3 g5
    go_loopw [5, 6] (fun u i wr => ∃ k : Nat, k ≤ n3 ∧ i = .int .i64 k ∧ OwB w.heap.size u (bs ++ encN [x0, x1, (n3 : Int)] 3 ++ hopsB zs k) wr ∧ Mk0 (w.alloc (Obj.cells #[Value.int .i64 x0, Value.int .i64 x1, Value.slice a3 n3 c3] 43)) wr) (fun _ i _ => n3 - (intOf i).toNat)
    case atStart => exact ⟨0, Nat.zero_le _, rfl, by simpa [hopsB] using ob5, MR5⟩
    case round =>
      clear ob5 MR5 obW ob3 ob4 hA g5
      obtain ⟨k, hk, rfl, ho, MR⟩ := hrel
      obtain ⟨d0, d1, d2⟩ := IH.out _ MR
      by_cases hlt : k < n3
      · obtain ⟨b, off, x, rfl, hb, hx, e0, e1, e2, e3, e4⟩ := HasHop.at _ _ _ _ _ _ (ROW _ MR) hlt
        obtain ⟨A5, L5, c5, rfl, hc5, hA5, hL5'⟩ := ho.slice
        have hhl := hopsB_len zs k
        have hlen : L5 ≤ 268435456 := by rw [hL5'.out, List.length_append, List.length_append, HL.out]; omega
        have hstep : bs ++ encN [x0, x1, (n3 : Int)] 3 ++ hopsB zs (k + 1) = (bs ++ encN [x0, x1, (n3 : Int)] 3 ++ hopsB zs k) ++ hopBytes x := by rw [hx.out, List.append_assoc (bs ++ encN [x0, x1, (n3 : Int)] 3)]; rfl
        have HS := Lib.hid hstep
        clear hstep hhl
        go_wp2_with fail
        refine (specAppHop x A5 L5 c5 _ _ hA5 hc5 hlen).mono ?_
        rintro e w6 hob6
        obtain ⟨v6, rfl, ob6, m6⟩ := OwB.of hob6
        go_wp2_with fail
        go_roundw
        case rel => exact ⟨k + 1, by omega, by go_num, by rw [HS.out]; exact ob6.low (M0.trans MR).size, MR.trans m6⟩
        case measure => simp [intOf]; omega
      · obtain rfl : n3 = k := by omega
        go_wp2_with fail
        go_ret
        exact OwB.out (by rw [← encN_all [x0, x1, (n3 : Int)] 3 rfl, ← List.append_assoc]; exact ho) (M0.trans MR)

set_option maxRecDepth 100000 in
set_option maxHeartbeats 4000000 in
theorem specSegSize (x0 x1 : Int) (a3 : Option Addr) (n3 c3 B : Nat) (zs : List THop) (w : World) (hs : HasHop w B a3 n3 zs) (hB : B ≤ w.heap.size) (hn3 : n3 ≤ 1048576) :
    Calls Try.prog 31 #[.agg #[.int .i64 x0, .int .i64 x1, .slice a3 n3 c3]] w fun e w' => e = .returned (.int .i64 ((segBytes x0 x1 zs n3).length : Nat)) ∧ Mk0 w w' := by
  have M0 := Mk.alloc w (Obj.cells #[Value.int .i64 x0, Value.int .i64 x1, Value.slice a3 n3 c3] 43)
  have hs1 : (w.alloc (Obj.cells #[Value.int .i64 x0, Value.int .i64 x1, Value.slice a3 n3 c3] 43)).heap.size = w.heap.size + 1 := by rw [World.size_alloc]
  have k0 : (w.alloc (Obj.cells #[Value.int .i64 x0, Value.int .i64 x1, Value.slice a3 n3 c3] 43)).cell? ⟨w.heap.size, 0, none⟩ = some (.int .i64 x0) := by simp [go_sem]
  have k1 : (w.alloc (Obj.cells #[Value.int .i64 x0, Value.int .i64 x1, Value.slice a3 n3 c3] 43)).cell? ⟨w.heap.size, 1, none⟩ = some (.int .i64 x1) := by simp [go_sem]
  have k2 : (w.alloc (Obj.cells #[Value.int .i64 x0, Value.int .i64 x1, Value.slice a3 n3 c3] 43)).cell? ⟨w.heap.size, 2, none⟩ = some (.slice a3 n3 c3) := by simp [go_sem]
  have hle := segBytes_len x0 x1 zs n3
  have MU := M0.new (Obj.cells #[] 5)
  replace k0 := (Mk.alloc (w.alloc (Obj.cells #[Value.int .i64 x0, Value.int .i64 x1, Value.slice a3 n3 c3] 43)) (Obj.cells #[] 5)).cellAt k0
  replace k1 := (Mk.alloc (w.alloc (Obj.cells #[Value.int .i64 x0, Value.int .i64 x1, Value.slice a3 n3 c3] 43)) (Obj.cells #[] 5)).cellAt k1
  replace k2 := (Mk.alloc (w.alloc (Obj.cells #[Value.int .i64 x0, Value.int .i64 x1, Value.slice a3 n3 c3] 43)) (Obj.cells #[] 5)).cellAt k2
  go_enter Try.func31, Try.ntmps31
  go_wp2_with fail
  refine (specAppSeg x0 x1 a3 n3 c3 B zs (some ⟨w.heap.size + 1, 0, none⟩) 0 0 [] _ (hs.mk MU hB (.inr (Nat.le_refl _))) (Nat.le_trans hB MU.size) hn3 (Has.none_ _ _ _) (fun h => by cases h) (by omega)).mono ?_
  rintro e w2 hob
  obtain ⟨v2, rfl, ob2, m2⟩ := OwB.of hob
  rw [List.nil_append] at ob2
  obtain ⟨A2, L2, c2, rfl, hc2, hA2, hL2⟩ := ob2.slice
  have hb : L2 ≤ 258 := by rw [hL2.out]; exact hle
  clear hle
  go_wp2_with fail
  go_ret
  exact ⟨by rw [← hL2.out]; rfl, MU.trans m2⟩

set_option maxRecDepth 100000 in
set_option maxHeartbeats 4000000 in
theorem implSegSize (x0 x1 : Int) (a3 : Option Addr) (n3 c3 B : Nat) (zs : List THop) (w : World) (hs : HasHop w B a3 n3 zs) (hB : B ≤ w.heap.size) (hn3 : n3 ≤ 1048576) :
    Calls Try.prog 32 #[.agg #[.int .i64 x0, .int .i64 x1, .slice a3 n3 c3]] w fun e w' => e = .returned (.int .i64 ((segBytes x0 x1 zs n3).length : Nat)) ∧ Mk0 w w' := by
  have M0 := Mk.alloc w (Obj.cells #[Value.int .i64 x0, Value.int .i64 x1, Value.slice a3 n3 c3] 43)
  have hs1 : (w.alloc (Obj.cells #[Value.int .i64 x0, Value.int .i64 x1, Value.slice a3 n3 c3] 43)).heap.size = w.heap.size + 1 := by rw [World.size_alloc]
  have k0 : (w.alloc (Obj.cells #[Value.int .i64 x0, Value.int .i64 x1, Value.slice a3 n3 c3] 43)).cell? ⟨w.heap.size, 0, none⟩ = some (.int .i64 x0) := by simp [go_sem]
  have k1 : (w.alloc (Obj.cells #[Value.int .i64 x0, Value.int .i64 x1, Value.slice a3 n3 c3] 43)).cell? ⟨w.heap.size, 1, none⟩ = some (.int .i64 x1) := by simp [go_sem]
  have k2 : (w.alloc (Obj.cells #[Value.int .i64 x0, Value.int .i64 x1, Value.slice a3 n3 c3] 43)).cell? ⟨w.heap.size, 2, none⟩ = some (.slice a3 n3 c3) := by simp [go_sem]
  have hle := segBytes_len x0 x1 zs n3
  have MU := M0
  go_enter Try.func32, Try.ntmps32
  go_wp2_with fail
  refine (implAppSeg x0 x1 a3 n3 c3 B zs none 0 0 [] _ (hs.mk MU hB (.inr (Nat.le_refl _))) (Nat.le_trans hB MU.size) hn3 (Has.none_ _ _ _) (fun h => by rfl) (by omega)).mono ?_
  rintro e w2 hob
  obtain ⟨v2, rfl, ob2, m2⟩ := OwB.of hob
  rw [List.nil_append] at ob2
  obtain ⟨A2, L2, c2, rfl, hc2, hA2, hL2⟩ := ob2.slice
  have hb : L2 ≤ 258 := by rw [hL2.out]; exact hle
  clear hle
  go_wp2_with fail
  go_ret
  exact ⟨by rw [← hL2.out]; rfl, MU.trans m2⟩

theorem specAppSegR (x0 x1 : Int) (a3 : Option Addr) (n3 c3 B : Nat) (zs : List THop) (a : Option Addr) (n c B' : Nat) (bs : List Int) (w : World) (hs : HasHop w B a3 n3 zs) (hB : B ≤ w.heap.size) (hn3 : n3 ≤ 1048576) (h : HasByte w B' a n bs) (hB' : B' ≤ w.heap.size) (hc0 : a = none → c = 0) (hn : n ≤ 1048576) :
    Calls Try.prog 26 #[.slice a n c, .agg #[.int .i64 x0, .int .i64 x1, .slice a3 n3 c3]] w (OutRows 1 (icell .u8) w (bs ++ segBytes x0 x1 zs n3)) :=
  (specAppSeg x0 x1 a3 n3 c3 B zs a n c bs w hs hB hn3 (hasR_int.1 (h.mono hB')) hc0 (by omega)).mono fun _ _ h => h.rows
theorem implAppSegR (x0 x1 : Int) (a3 : Option Addr) (n3 c3 B : Nat) (zs : List THop) (a : Option Addr) (n c B' : Nat) (bs : List Int) (w : World) (hs : HasHop w B a3 n3 zs) (hB : B ≤ w.heap.size) (hn3 : n3 ≤ 1048576) (h : HasByte w B' a n bs) (hB' : B' ≤ w.heap.size) (hc0 : a = none → c = 0) (hn : n ≤ 1048576) :
    Calls Try.prog 28 #[.slice a n c, .agg #[.int .i64 x0, .int .i64 x1, .slice a3 n3 c3]] w (OutRows 1 (icell .u8) w (bs ++ segBytes x0 x1 zs n3)) :=
  (implAppSeg x0 x1 a3 n3 c3 B zs a n c bs w hs hB hn3 (hasR_int.1 (h.mono hB')) hc0 (by omega)).mono fun _ _ h => h.rows
end Go.Proofs.Ytpiilbcdiejjfaa
