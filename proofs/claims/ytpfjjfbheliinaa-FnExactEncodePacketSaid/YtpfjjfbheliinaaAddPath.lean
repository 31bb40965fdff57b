
/- AppendPath, PathSize of both sides. -/
import Derived.Test.YtpfjjfbheliinaaAddSeg
import Derived.Test.YtpfjjfbheliinaaPInts
import Derived.Test.YtpfjjfbheliinaaEncPath
import Derived.Test.YtpfjjfbheliinaaStepA
namespace Go.Proofs.Ytpfjjfbheliinaa
open Go.ChangeShapes Go.WideShapes Go.ChangeAt Go.RowKit
set_option linter.unusedVariables false

theorem hopsN_hops (x : TPathPart) : encL (piN [x] 1) = encL (ptH x) ++ encL (hopsN x.hops x.hops.length) := by
  have h : piN [x] 1 = ptH x ++ hopsN x.hops x.hops.length := by rw [piN, piN, List.nil_append]; rfl
  rw [h, encL_app]
def partsB (ps : List TPathPart) : Nat → List Int
  | 0 => []
  | k + 1 => partsB ps k ++ encL (ptH (ps.getD k default)) ++ hopsB (ps.getD k default).hops (ps.getD k default).hops.length
theorem encPart_enc {x : TPathPart} (h : encPartB x = true) : encB x.ts x.beta x.hops x.hops.length = true := by
  unfold encPartB at h
  split at h
  · exact h
  · cases h
theorem encB_ok {x0 x1 : Int} {zs : List THop} {n : Nat} (h : encB x0 x1 zs n = true) : okUp zs n = true := by
  unfold encB at h
  split at h
  · exact h
  · cases h
theorem partsB_ok (ps : List TPathPart) : ∀ k, allTo encPartB ps k = true → partsB ps k = encL (piN ps k)
  | 0, _ => rfl
  | k + 1, h => by
    rw [allTo, Bool.and_eq_true] at h
    rw [partsB, piN, encL_app, encL_app, partsB_ok ps k h.1, hopsB_ok _ _ (encB_ok (encPart_enc h.2))]
theorem partsB_len (ps : List TPathPart) : ∀ k, (partsB ps k).length ≤ 24 * k + 30 * sumTo sePathPart ps k
  | 0 => by simp [partsB]
  | k + 1 => by
    have h1 := partsB_len ps k
    have h2 := encL_len (ptH (ps.getD k default))
    have h3 := hopsB_len (ps.getD k default).hops (ps.getD k default).hops.length
    rw [partsB, List.length_append, List.length_append, sumTo]
    have h4 : (ptH (ps.getD k default)).length = 4 := rfl
    rw [h4] at h2
    unfold sePathPart
    unfold sePathPart at h1
    omega
theorem sum_few (ps : List TPathPart) : ∀ k, allTo encPartB ps k = true → sumTo sePathPart ps k ≤ 8 * k
  | 0, _ => Nat.le_refl _
  | k + 1, h => by
    rw [allTo, Bool.and_eq_true] at h
    have h1 := sum_few ps k h.1
    have h2 := encB_le (encPart_enc h.2)
    rw [sumTo]
    have h3 : sePathPart (ps.getD k default) = (ps.getD k default).hops.length := rfl
    omega
def pathBytes (ps : List TPathPart) (n : Nat) : List Int := if encPathB ps n then vb (n : Int) ++ encL (piN ps n) else []
theorem encPath_le {ps : List TPathPart} {n : Nat} (h : encPathB ps n = true) : n ≤ 3 ∧ allTo encPartB ps n = true := by
  unfold encPathB at h
  split at h
  · next h3 => exact ⟨h3, h⟩
  · cases h
theorem pathBytes_len (ps : List TPathPart) (n : Nat) : (pathBytes ps n).length ≤ 1000 := by
  unfold pathBytes
  split
  · next h =>
    obtain ⟨h3, ha⟩ := encPath_le h
    have h1 := sum_few ps n ha
    have h2 := encL_len (piN ps n)
    have h4 := piN_len ps n
    have h5 := vb_len (n : Int)
    rw [List.length_append]
    omega
  · simp
theorem step_appB {w : World} {ops : Array Oper} {o : Oper} {a : Act} {K : Act → World → Prop} {Q : Exit → Act → World → Prop} {E : Prop} (hgd : o.guard = none) (s x : Operand)
    (ho : o.op = .call { callee := .builtin .append, args := #[s, x], argTypes := #[63, 63] })
    (lo : Nat) (v : Value) (zs : List Int) (hs : a.eval s = v) (hown : OwB lo v zs w)
    (A : Option Addr) (m c : Nat) (ns : List Int) (hx : a.eval x = .slice A m c) (hc0 : A = none → c = 0) (hr : Has .u8 w w.heap.size A m ns)
    (hmax : zs.length + m ≤ 1073741824) (hlo : lo ≤ w.heap.size)
    (h : ∀ v' w', OwB lo v' (zs ++ ns) w' → Gro v v' w w' → K (a.put o.dst v') w') :
    if Region.wanted o (yielded ops a.tmps) = true then Oper.wp Try.prog o a w K Q else E := by
  obtain ⟨i0, hi, hz0, hz1, hz2⟩ := info_parts infoU8
  have hw : Region.wanted o (yielded ops a.tmps) = true := by simp [Region.wanted, hgd]
  have hm := hr.1
  rcases A with _ | ad
  · have h0 : m = 0 := by
      rcases Nat.eq_zero_or_pos m with h0 | h0
      · exact h0
      · obtain ⟨b, off, hh, _⟩ := hr.2 h0
        cases hh
    subst h0
    obtain rfl : ns = [] := List.eq_nil_of_length_eq_zero hm
    obtain rfl := hc0 rfl
    have hrun := run_append_owned_none (P := Try.prog) (w := w) lo 63 o.type 5 i0 1 Try.underlying63 hi v zs.length (zs.map (.int .u8)) hown
    rw [if_pos hw]
    unfold Oper.wp
    simp [execOp, ho, resolve, invoke, builtin, hs, hx, hrun, Result.andThen]
    exact h v w (by simpa using hown) (Gro.refl _ _)
  · exact step_app (k := .u8) hgd s x 63 ho lo 5 i0 Try.underlying63 hi hz0 hz1 (by rw [hz2]; decide) v zs zs.length hs hown ad m c ns hx hr hmax hlo (fun v' w' h1 h2 h3 => h v' w' (by unfold OwB; rw [List.length_append, hr.1]; exact h1) (Gro.of h2 h3))
set_option maxRecDepth 100000 in
set_option maxHeartbeats 4000000 in
theorem implHeadO (x : TPathPart) (a3 : Option Addr) (n3 c3 : Nat) (w : World) :
    Calls Try.prog 152 #[.agg #[.int .i64 x.kind, .int .i64 x.ts, .int .i64 x.beta, .slice a3 n3 c3]] w fun en w' => ∃ b, en = .returned (.slice (some ⟨b, 0, none⟩) 4 4) ∧ Own .i64 w' w.heap.size (some ⟨b, 0, none⟩) 4 [x.kind, x.ts, x.beta, (n3 : Int)] ∧ Mk0 w w' := by
  go_enter Try.func152, Try.ntmps152
  go_wp2
  go_ret
  refine ⟨w.heap.size + 1, rfl, ?_, (Mk.alloc w (Obj.cells #[Value.int .i64 x.kind, Value.int .i64 x.ts, Value.int .i64 x.beta, Value.slice a3 n3 c3] 119)).new _⟩
  have h := own_lit (w.alloc (Obj.cells #[Value.int .i64 x.kind, Value.int .i64 x.ts, Value.int .i64 x.beta, Value.slice a3 n3 c3] 119)) 3 ([x.kind, x.ts, x.beta, (n3 : Int)].map (.int .i64)) (by simp)
  have h2 := ownsRow_own (k := .i64) (zs := [x.kind, x.ts, x.beta, (n3 : Int)]) h
  rw [World.size_alloc w] at h2
  exact h2.low (Nat.le_succ _)

set_option maxRecDepth 100000 in
set_option maxHeartbeats 4000000 in
theorem implAddPath (a : Option Addr) (n c B : Nat) (ps : List TPathPart) (v : Value) (bs : List Int) (w0 w : World) (h : HasPathPart w0 B a n ps) (hB : B ≤ w0.heap.size) (hn : szPathPart ps n ≤ 1048576) (m : Mk0 w0 w) (hown : OwB w0.heap.size v bs w) (hL : bs.length ≤ 134217728) :
    Calls Try.prog 107 #[v, .agg #[.slice a n c]] w fun e w' => ∃ v', e = .returned v' ∧ OwB w0.heap.size v' (bs ++ pathBytes ps n) w' ∧ Mk0 w0 w' := by
  cases hv : encPathB ps n with
  | false =>
    have hr : pathBytes ps n = [] := by simp [pathBytes, hv]
    rw [hr]
    clear hr
    have HV := Lib.hid hv
    clear hv
    go_enter Try.func107, Try.ntmps107
    go_wp2_with fail
    have MM := m.new (Obj.cells #[Value.slice a n c] 67)
    refine ((implEncPath a n c B ps _ (h.mk MM hB (.inr (Nat.le_refl _))) (Nat.le_trans hB MM.size) hn).mono fun e w' h => by rw [HV.out] at h; exact h).mono ?_
    rintro e w1 ⟨rfl, m1⟩
    have ob1 := (hown.kept (Mk.alloc w (Obj.cells #[Value.slice a n c] 67))).kept m1
    have M1 := MM.trans m1
    clear hown
    go_wp2_with fail
    go_ret
    exact ⟨v, rfl, by rw [List.append_nil]; exact ob1, M1⟩
  | true =>
    obtain ⟨h3, hall⟩ := encPath_le hv
    have hr : pathBytes ps n = vb (n : Int) ++ partsB ps n := by simp [pathBytes, hv, partsB_ok ps n hall]
    rw [hr]
    clear hr hall
    have HV := Lib.hid hv
    clear hv
    have k0 : (w.alloc (Obj.cells #[Value.slice a n c] 67)).cell? ⟨w.heap.size, 0, none⟩ = some (.slice a n c) := by simp [go_sem]
    have hzw := (Mk.alloc w (Obj.cells #[Value.slice a n c] 67)).size
    go_enter Try.func107, Try.ntmps107
    go_wp2_with fail
    have MM := m.new (Obj.cells #[Value.slice a n c] 67)
    refine ((implEncPath a n c B ps _ (h.mk MM hB (.inr (Nat.le_refl _))) (Nat.le_trans hB MM.size) hn).mono fun e w' h => by rw [HV.out] at h; exact h).mono ?_
    rintro e w1 ⟨rfl, m1⟩
    replace k0 := m1.cellAt k0
    have M1 := MM.trans m1
    have ob1 := (hown.kept (Mk.alloc w (Obj.cells #[Value.slice a n c] 67))).kept m1
    have hne : ∀ q, v.ownBlock = some q → q < w.heap.size := fun q e => (hown.lt q e).2
    clear MM hown
    go_wp2_with fail
    refine (addVarintB _ _ _ _ _ ob1 M1.size (by omega)).mono ?_
    rintro e w2 ⟨v2, rfl, ob2, g2⟩
    have M2 := ob1.gro0 M1 g2
    replace k0 := g2.cell k0 (fun e => by have := hne _ e; omega)
    clear ob1 hne
    go_wp2_with fail
    go_loopw [0, 23] (fun u i wr => ∃ k : Nat, k ≤ n ∧ i = .int .i64 k ∧ OwB w0.heap.size u (bs ++ vb (n : Int) ++ partsB ps k) wr ∧ Mk0 w0 wr) (fun _ i _ => n - (intOf i).toNat)
    case atStart => exact ⟨0, Nat.zero_le _, rfl, by simpa [partsB] using ob2, M2⟩
    case round =>
      clear ob2 M2 k0 g2
      obtain ⟨k, hk, rfl, ho, MR⟩ := hrel
      by_cases hlt : k < n
      · obtain ⟨b, off, x, rfl, hb, hx, a3, n3, c3, d0, d1, d2, d3, r3, m3, t3, z3⟩ := HasPathPart.at _ _ _ _ _ _ h hlt
        have hbp := partsB_len ps k
        have HS := szPathPart_at ps hlt
        have hse : sePathPart (ps.getD k default) = n3 := by rw [← hx.out]; exact r3.1
        rw [hse] at HS
        have hn3 : n3 ≤ 1048576 := by omega
        have hlenP : (bs ++ vb (n : Int) ++ partsB ps k).length ≤ 200000000 := by have := vb_len (n : Int); rw [List.length_append, List.length_append]; omega
        have HP := Lib.hid (show partsB ps (k + 1) = partsB ps k ++ encL [x.kind, x.ts, x.beta, (n3 : Int)] ++ hopsB x.hops n3 by rw [partsB, ← hx.out, show x.hops.length = n3 from r3.1, ptH, show x.hops.length = n3 from r3.1])
        have HR3 := Lib.hid r3
        clear hse hbp HS r3 m3 t3 z3
        replace d0 := MR.cellAt d0
        replace d1 := MR.cellAt d1
        replace d2 := MR.cellAt d2
        replace d3 := MR.cellAt d3
        obtain ⟨L, hL⟩ : ∃ L, Hid (L = bs ++ vb (n : Int) ++ partsB ps k) := ⟨_, Lib.hid rfl⟩
        rw [← hL.out] at ho hlenP
        have hbr := World.block_lt_of_cell? _ _ d0
        simp only at hbr
        have MX := Mk.alloc wr (Obj.cells #[Value.int .i64 x.kind, Value.int .i64 x.ts, Value.int .i64 x.beta, Value.slice a3 n3 c3] 119)
        have q0 : (wr.alloc (Obj.cells #[Value.int .i64 x.kind, Value.int .i64 x.ts, Value.int .i64 x.beta, Value.slice a3 n3 c3] 119)).cell? ⟨wr.heap.size, 0, none⟩ = some (.int .i64 x.kind) := by simp [go_sem]
        have q1 : (wr.alloc (Obj.cells #[Value.int .i64 x.kind, Value.int .i64 x.ts, Value.int .i64 x.beta, Value.slice a3 n3 c3] 119)).cell? ⟨wr.heap.size, 1, none⟩ = some (.int .i64 x.ts) := by simp [go_sem]
        have q2 : (wr.alloc (Obj.cells #[Value.int .i64 x.kind, Value.int .i64 x.ts, Value.int .i64 x.beta, Value.slice a3 n3 c3] 119)).cell? ⟨wr.heap.size, 2, none⟩ = some (.int .i64 x.beta) := by simp [go_sem]
        have q3 : (wr.alloc (Obj.cells #[Value.int .i64 x.kind, Value.int .i64 x.ts, Value.int .i64 x.beta, Value.slice a3 n3 c3] 119)).cell? ⟨wr.heap.size, 3, none⟩ = some (.slice a3 n3 c3) := by simp [go_sem]
        go_wp2_with fail
        clear d0 d1 d2 d3
        refine (implHeadO x a3 n3 c3 _).mono ?_
        rintro e w3 ⟨bh, rfl, hh3, m3⟩
        replace q3 := m3.cellAt q3
        clear q0 q1 q2
        have oR := hh3.toR (hi := w3.heap.size) (Nat.le_refl _)
        have MX3 := MX.trans m3
        have hszX := MX.size
        have hsz3 := m3.size
        have hgo : ∀ g, _root_.Go.Value.ownBlock _ = some g → g < wr.heap.size := fun g hg => (ho.lt g hg).2
        have hT := Lib.hid (show ∀ g, _root_.Go.Value.ownBlock _ = some g → g < _ ∨ w3.heap.size ≤ g from fun g hg => .inl (Nat.lt_of_lt_of_le (hgo g hg) hszX))
        have ho3 := ho.kept MX3
        have M3 := MR.trans MX3
        clear hh3 ho
        go_wp2_with fail
        go_loopw [0, 30] (fun u i wi => ∃ j : Nat, j ≤ 4 ∧ i = .int .i64 j ∧ OwB w0.heap.size u (L ++ encN [x.kind, x.ts, x.beta, (n3 : Int)] j) wi ∧ Gro _ u w3 wi) (fun _ i _ => 4 - (intOf i).toNat)
        case atStart => exact ⟨0, Nat.zero_le _, rfl, by simpa [encN] using ho3, Gro.refl _ _⟩
        case round =>
          obtain ⟨j, hj, rfl, hoi, hG⟩ := hrel
          have MI := ho3.gro0 M3 hG
          by_cases hjt : j < 4
          · have oR' := hG.row oR hT.out (Nat.le_refl _)
            obtain ⟨b4, off4, z, hbe, hbs, hz', hcell⟩ := (hasR_int.1 oR'.has).at_ hjt
            obtain ⟨rfl, rfl⟩ : bh = b4 ∧ 0 = off4 := by injection hbe with e; injection e with e1 e2; exact ⟨e1, e2⟩
            rw [Nat.zero_add] at hcell
            have hen := encN_len [x.kind, x.ts, x.beta, (n3 : Int)] j
            have hlen : (L ++ encN [x.kind, x.ts, x.beta, (n3 : Int)] j).length ≤ 1073741800 := by rw [List.length_append]; omega
            have hstep : L ++ encN [x.kind, x.ts, x.beta, (n3 : Int)] (j + 1) = (L ++ encN [x.kind, x.ts, x.beta, (n3 : Int)] j) ++ vb z := by rw [hz'.out, List.append_assoc]; rfl
            have HSt := Lib.hid hstep
            clear hstep hen oR' hbe
            go_wp2_with fail
            refine (addVarintB _ _ _ _ _ hoi MI.size hlen).mono ?_
            rintro e w4 ⟨u', rfl, ho4, g4⟩
            go_wp2_with fail
            go_roundw
            case rel => exact ⟨j + 1, by omega, by go_num, by rw [HSt.out]; exact ho4, hG.trans g4⟩
            case measure => simp [intOf]; omega
          · obtain rfl : j = 4 := by omega
            have q3' := hG.cell q3 (fun e => Nat.lt_irrefl _ (hgo _ e))
            clear ho3 oR hT hG q3 hgo
            go_wp2_with fail
            go_loopw [0, 41] (fun u i wi => ∃ j : Nat, j ≤ n3 ∧ i = .int .i64 j ∧ OwB w0.heap.size u (L ++ encN [x.kind, x.ts, x.beta, (n3 : Int)] 4 ++ hopsB x.hops j) wi ∧ Mk0 w0 wi) (fun _ i _ => n3 - (intOf i).toNat)
            case atStart => exact ⟨0, Nat.zero_le _, rfl, by simpa [hopsB] using hoi, MI⟩
            case round =>
              clear hoi MI q3'
              obtain ⟨j, hj, rfl, hoj, MJ⟩ := hrel
              by_cases hjt : j < n3
              · obtain ⟨b2, off2, q, rfl, hb2, hq, e0, e1, e2, e3, e4⟩ := HasHop.at _ _ _ _ _ _ (HR3.out.mk MJ hB (.inr (Nat.le_refl _))) hjt
                have hbr2 := World.block_lt_of_cell? _ _ e0
                simp only at hbr2
                have hen := encN_len [x.kind, x.ts, x.beta, (n3 : Int)] 4
                have hhl := hopsB_len x.hops j
                have hlen : (L ++ encN [x.kind, x.ts, x.beta, (n3 : Int)] 4 ++ hopsB x.hops j).length ≤ 1073741700 := by rw [List.length_append, List.length_append]; omega
                have hstep : L ++ encN [x.kind, x.ts, x.beta, (n3 : Int)] 4 ++ hopsB x.hops (j + 1) = (L ++ encN [x.kind, x.ts, x.beta, (n3 : Int)] 4 ++ hopsB x.hops j) ++ hopBytes q := by rw [hq.out, List.append_assoc (L ++ encN [x.kind, x.ts, x.beta, (n3 : Int)] 4)]; rfl
                have HSt := Lib.hid hstep
                clear hstep hen hhl
                go_wp2_with fail
                refine (implAddHop q _ _ _ _ (hoj.kept (Mk.alloc _ _)) (MJ.new _).size hlen).mono ?_
                rintro e w5 ⟨u', rfl, ho5, g5⟩
                go_wp2_with fail
                go_roundw
                case rel => (repeat apply Exists.intro); exact ⟨⟨j + 1, by omega, by go_num, by rw [HSt.out]; exact ho5, (hoj.kept (Mk.alloc _ _)).gro0 (MJ.new _) g5⟩, rfl⟩
                case measure => simp [intOf]; omega
              · obtain rfl : n3 = j := by omega
                have HQ := Lib.hid (show bs ++ vb (n : Int) ++ partsB ps (k + 1) = L ++ encN [x.kind, x.ts, x.beta, (n3 : Int)] 4 ++ hopsB x.hops n3 by rw [HP.out, hL.out, encN_all [x.kind, x.ts, x.beta, (n3 : Int)] 4 rfl]; simp only [List.append_assoc])
                go_wp2_with fail
                go_roundw
                case rel => exact ⟨k + 1, by omega, by go_num, by rw [HQ.out]; exact hoj, MJ⟩
                case measure => simp [intOf]; omega
      · obtain rfl : n = k := by omega
        go_wp2_with fail
        go_ret
        exact ⟨_, rfl, by rw [← List.append_assoc]; exact ho, MR⟩

set_option maxRecDepth 100000 in
set_option maxHeartbeats 4000000 in
theorem specAppPath (a : Option Addr) (n c B : Nat) (ps : List TPathPart) (ab : Option Addr) (nb cb : Nat) (bs : List Int) (w : World) (h : HasPathPart w B a n ps) (hB : B ≤ w.heap.size) (hn : szPathPart ps n ≤ 1048576) (hb : Has .u8 w w.heap.size ab nb bs) (hc0 : ab = none → cb = 0) (hnb : nb ≤ 134217728) :
    Calls Try.prog 102 #[.slice ab nb cb, .agg #[.slice a n c]] w (OutB w (bs ++ pathBytes ps n)) := by
  have M0 := Mk.alloc w (Obj.cells #[Value.slice a n c] 67)
  have hl := hb.1
  have HL := Lib.hid hl
  clear hl
  have HC := Lib.hid hc0
  clear hc0
  have hs1 : (w.alloc (Obj.cells #[Value.slice a n c] 67)).heap.size = w.heap.size + 1 := by rw [World.size_alloc]
  have hu1 := hb.next M0.below0
  have k0 : (w.alloc (Obj.cells #[Value.slice a n c] 67)).cell? ⟨w.heap.size, 0, none⟩ = some (.slice a n c) := by simp [go_sem]
  have IH := Lib.hid (fun (w' : World) (m : Mk0 (w.alloc (Obj.cells #[Value.slice a n c] 67)) w') => m.cellAt k0)
  clear k0 hb
  have obn : OwB (w.alloc (Obj.cells #[Value.slice a n c] 67)).heap.size (.slice (some ⟨w.heap.size + 1, 0, none⟩) 0 0) [] ((w.alloc (Obj.cells #[Value.slice a n c] 67)).alloc (Obj.cells #[] 5)) := by rw [← hs1]; exact OwB.nil _
  have ob0 := obn.low (lo' := w.heap.size + 1) (by omega)
  have hu := hu1.alloc (Obj.cells #[] 5)
  have hzlo : w.heap.size + 1 ≤ ((w.alloc (Obj.cells #[Value.slice a n c] 67)).alloc (Obj.cells #[] 5)).heap.size := by rw [World.size_alloc, hs1]; omega
  cases hv : encPathB ps n with
  | false =>
    have hr : pathBytes ps n = [] := by simp [pathBytes, hv]
    rw [hr]
    clear hr
    have HV := Lib.hid hv
    clear hv
    go_enter Try.func102, Try.ntmps102
    go_wp2_with (at_builtin; refine wpList_appB rfl (.tmp 6) (.tmp 7) rfl (w.heap.size + 1) (.slice (some ⟨w.heap.size + 1, 0, none⟩) 0 0) [] rfl ob0 ab nb cb bs rfl HC.out hu (by simp only [List.length_nil]; omega) hzlo ?_; intro v1 w1 ob1 g1; have mU := obn.gro0 (Mk.alloc (w.alloc (Obj.cells #[Value.slice a n c] 67)) (Obj.cells #[] 5)) g1; have d0 := IH.out _ mU)
    rw [← hs1] at ob1
    rw [List.nil_append] at ob1
    have MM := M0.trans mU
    refine ((specEncPath a n c B ps _ (h.mk MM hB (.inr (Nat.le_refl _))) (Nat.le_trans hB MM.size) hn).mono fun e w' h => by rw [HV.out] at h; exact h).mono ?_
    rintro e w2 ⟨rfl, m2⟩
    have ob2 := ob1.kept m2
    have M2 := mU.trans m2
    clear ob1 g1 d0 MM
    have d0 := IH.out _ M2
    go_wp2_with fail
    go_ret
    exact OwB.out (by rw [List.append_nil]; exact ob2.low M0.size) (M0.trans M2)
  | true =>
    have hr : pathBytes ps n = vb (n : Int) ++ encL (piN ps n) := by simp [pathBytes, hv]
    rw [hr]
    clear hr
    obtain ⟨h3, hall⟩ := encPath_le hv
    have HV := Lib.hid hv
    clear hv
    go_enter Try.func102, Try.ntmps102
    go_wp2_with (at_builtin; refine wpList_appB rfl (.tmp 6) (.tmp 7) rfl (w.heap.size + 1) (.slice (some ⟨w.heap.size + 1, 0, none⟩) 0 0) [] rfl ob0 ab nb cb bs rfl HC.out hu (by simp only [List.length_nil]; omega) hzlo ?_; intro v1 w1 ob1 g1; have mU := obn.gro0 (Mk.alloc (w.alloc (Obj.cells #[Value.slice a n c] 67)) (Obj.cells #[] 5)) g1; have d0 := IH.out _ mU)
    rw [← hs1] at ob1
    rw [List.nil_append] at ob1
    have MM := M0.trans mU
    refine ((specEncPath a n c B ps _ (h.mk MM hB (.inr (Nat.le_refl _))) (Nat.le_trans hB MM.size) hn).mono fun e w' h => by rw [HV.out] at h; exact h).mono ?_
    rintro e w2 ⟨rfl, m2⟩
    have ob2 := ob1.kept m2
    have M2 := mU.trans m2
    clear ob1 g1 d0 MM
    have d0 := IH.out _ M2
    obtain ⟨A1, L1, c1, rfl, hc1, hA1, hl1⟩ := ob2.slice
    clear ob2
    have hXL := Lib.hid (show (encL (piN ps n)).length ≤ 1000 by have h1 := encL_len (piN ps n); have h2 := piN_len ps n; have h4 := sum_few ps n hall; omega)
    have HSM := Lib.hid (show sumTo sePathPart ps n ≤ 24 by have h4 := sum_few ps n hall; omega)
    have hM : Mk0 (w.alloc (Obj.cells #[Value.slice a n c] 67)) w2 := M2
    clear hall
    go_wp2_with fail
    refine wp_region_any (by kernel_rfl) ?_
    change wpAny _ _ _ _ _ _ _ (World.drew w2)
    have hM0 : Mk0 (w.alloc (Obj.cells #[Value.slice a n c] 67)) w2.drew := M2.trans (Mk.drew1 _)
    replace hA1 : Has .u8 w2.drew w2.drew.heap.size A1 L1 bs := hA1.next (Mk.drew1 w2).below0
    replace hM : Mk0 (w.alloc (Obj.cells #[Value.slice a n c] 67)) w2.drew := hM0
    clear M2 m2 d0
    generalize w2.drew = u0 at *
    refine wpAny_take (i := 0) (v := _) rfl (by kernel_rfl) (by kernel_rfl) (by kernel_rfl) (fun _ _ _ h => h) (Or.inl ⟨by rfl, fun w => by go_simp; try with_reducible rfl⟩) ?_
    try simp only [Act.put, List.getElem_toArray, List.getElem_cons_zero, List.setIfInBounds_toArray, List.set_cons_zero, List.set_cons_succ]
    refine wpAny_take (i := 1) (v := _) rfl (by kernel_rfl) (by kernel_rfl) (by kernel_rfl) (fun _ _ _ h => h) (Or.inl ⟨by rfl, fun w => by go_simp; try with_reducible rfl⟩) ?_
    try simp only [Act.put, List.getElem_toArray, List.getElem_cons_succ, List.getElem_cons_zero, List.setIfInBounds_toArray, List.set_cons_zero, List.set_cons_succ]
    refine wpAny_ready (rs := [2, 5]) (by kernel_rfl) (by simp) ?_
    refine (AllReady.cons rfl (fun K hK => ?_) (AllReady.cons rfl (fun K hK => ?_) AllReady.nil))
    · have d0 := IH.out _ hM0
      go_simp
      refine hK _ _ ?_
      clear hK K
      try simp only [Act.put, List.getElem_toArray, List.getElem_cons_succ, List.getElem_cons_zero, List.setIfInBounds_toArray, List.set_cons_zero, List.set_cons_succ]
      clear d0
      refine wpAny_take (i := 3) (v := _) rfl (by kernel_rfl) (by kernel_rfl) (by kernel_rfl) (fun _ _ _ h => h) (Or.inl ⟨by rfl, fun w => by go_simp; try with_reducible rfl⟩) ?_
      try simp only [Act.put, List.getElem_toArray, List.getElem_cons_succ, List.getElem_cons_zero, List.setIfInBounds_toArray, List.set_cons_zero, List.set_cons_succ]
      refine wpAny_ready (rs := [4, 5]) (by kernel_rfl) (by simp) ?_
      refine (AllReady.cons rfl (fun K hK => ?_) (AllReady.cons rfl (fun K hK => ?_) AllReady.nil))
      · go_simp
        go_at_call 145
        refine (specVarint A1 L1 c1 (n : Int) bs _ hA1 hc1 (by have := hl1.out; have := HL.out; omega)).mono ?_
        rintro e u1 hob
        obtain ⟨va, rfl, oA, ms⟩ := OwB.of hob
        first | refine hK _ _ ?_ | refine ⟨_, rfl, hK _ _ ?_⟩ | skip
        clear hK K
        try simp only [Act.put, List.getElem_toArray, List.getElem_cons_succ, List.getElem_cons_zero, List.setIfInBounds_toArray, List.set_cons_zero, List.set_cons_succ]
        replace oA := oA.low hM0.size
        have hM1 := hM0.trans ms
        refine wpAny_ready (rs := [5]) (by kernel_rfl) (by simp) ?_
        refine (AllReady.cons rfl (fun K hK => ?_) AllReady.nil)
        have d0 := IH.out _ hM1
        go_simp
        refine hK _ _ ?_
        clear hK K
        try simp only [Act.put, List.getElem_toArray, List.getElem_cons_succ, List.getElem_cons_zero, List.setIfInBounds_toArray, List.set_cons_zero, List.set_cons_succ]
        clear d0
        refine wpAny_ready (rs := [6]) (by kernel_rfl) (by simp) ?_
        refine (AllReady.cons rfl (fun K hK => ?_) AllReady.nil)
        go_simp
        go_at_call 146
        refine (specPInts a n c B ps _ (h.mk (M0.trans hM1) hB (.inr (Nat.le_refl _))) (Nat.le_trans hB (M0.trans hM1).size) hn).mono ?_
        rintro e u2 ⟨AI, NI, cI, rfl, hcI, oI, bI⟩
        first | refine hK _ _ ?_ | refine ⟨_, rfl, hK _ _ ?_⟩ | skip
        clear hK K
        try simp only [Act.put, List.getElem_toArray, List.getElem_cons_succ, List.getElem_cons_zero, List.setIfInBounds_toArray, List.set_cons_zero, List.set_cons_succ]
        have hI := oI.has
        have ms := Mk.of_below bI
        clear oI bI hcI
        have hM2 := hM1.trans ms
        replace oA := oA.kept ms
        refine wpAny_ready (rs := [7]) (by kernel_rfl) (by simp) ?_
        refine (AllReady.cons rfl (fun K hK => ?_) AllReady.nil)
        go_simp
        go_at_call 101
        refine (specEncodeInts AI NI cI (piN ps n) _ hI (by have := hI.1; have h1 := piN_len ps n; have := HSM.out; omega)).mono ?_
        rintro e u3 hob
        obtain ⟨vx, rfl, oX, ms⟩ := OwB.of hob
        obtain ⟨AX, LX, cX, rfl, hcX, hX, hlX⟩ := oX.slice
        first | refine hK _ _ ?_ | refine ⟨_, rfl, hK _ _ ?_⟩ | skip
        clear hK K
        try simp only [Act.put, List.getElem_toArray, List.getElem_cons_succ, List.getElem_cons_zero, List.setIfInBounds_toArray, List.set_cons_zero, List.set_cons_succ]
        rw [encN_all (piN ps n) NI hI.1.symm] at hX hlX
        have hX2 : (encL (piN ps n)).length ≤ 1000 := hXL.out
        replace hcX := hcX
        clear oX hI
        have hM3 := hM2.trans ms
        replace oA := oA.kept ms
        refine wpAny_ready (rs := [8]) (by kernel_rfl) (by simp) ?_
        refine (AllReady.cons rfl (fun K hK => ?_) AllReady.nil)
        refine step_appB (by rfl) (.tmp 17) (.tmp 20) (by rfl) (w.alloc (Obj.cells #[Value.slice a n c] 67)).heap.size va (bs ++ vb (n : Int)) (by rfl) oA AX LX cX (encL (piN ps n)) (by rfl) hcX hX (by have := hlX.out; have := hXL.out; have := HL.out; have := vb_len (n : Int); rw [List.length_append]; omega) hM3.size ?_
        intro v4 u4 ho4 hg4
        refine hK _ _ ?_
        clear hK K
        try simp only [Act.put, List.getElem_toArray, List.getElem_cons_succ, List.getElem_cons_zero, List.setIfInBounds_toArray, List.set_cons_zero, List.set_cons_succ]
        have hM4 := oA.gro0 hM3 hg4
        refine wpAny_ready (rs := [9]) (by kernel_rfl) (by simp) ?_
        refine (AllReady.cons rfl (fun K hK => ?_) AllReady.nil)
        go_simp
        refine hK _ _ ?_
        clear hK K
        try simp only [Act.put, List.getElem_toArray, List.getElem_cons_succ, List.getElem_cons_zero, List.setIfInBounds_toArray, List.set_cons_zero, List.set_cons_succ]
        refine wpAny_done (by kernel_rfl) ?_ _
        refine ‹∀ (a : Act) (w : World), _ → _› _ _ ?_
        clear oA hX hg4
        go_wp2_with fail
        go_ret
        exact OwB.out (by rw [← List.append_assoc]; exact ho4.low M0.size) (M0.trans hM4)
      · have d0 := IH.out _ hM0
        go_simp
        refine hK _ _ ?_
        clear hK K
        try simp only [Act.put, List.getElem_toArray, List.getElem_cons_succ, List.getElem_cons_zero, List.setIfInBounds_toArray, List.set_cons_zero, List.set_cons_succ]
        clear d0
        refine wpAny_ready (rs := [4]) (by kernel_rfl) (by simp) ?_
        refine (AllReady.cons rfl (fun K hK => ?_) AllReady.nil)
        go_simp
        go_at_call 145
        refine (specVarint A1 L1 c1 (n : Int) bs _ hA1 hc1 (by have := hl1.out; have := HL.out; omega)).mono ?_
        rintro e u1 hob
        obtain ⟨va, rfl, oA, ms⟩ := OwB.of hob
        first | refine hK _ _ ?_ | refine ⟨_, rfl, hK _ _ ?_⟩ | skip
        clear hK K
        try simp only [Act.put, List.getElem_toArray, List.getElem_cons_succ, List.getElem_cons_zero, List.setIfInBounds_toArray, List.set_cons_zero, List.set_cons_succ]
        replace oA := oA.low hM0.size
        have hM1 := hM0.trans ms
        refine wpAny_ready (rs := [6]) (by kernel_rfl) (by simp) ?_
        refine (AllReady.cons rfl (fun K hK => ?_) AllReady.nil)
        go_simp
        go_at_call 146
        refine (specPInts a n c B ps _ (h.mk (M0.trans hM1) hB (.inr (Nat.le_refl _))) (Nat.le_trans hB (M0.trans hM1).size) hn).mono ?_
        rintro e u2 ⟨AI, NI, cI, rfl, hcI, oI, bI⟩
        first | refine hK _ _ ?_ | refine ⟨_, rfl, hK _ _ ?_⟩ | skip
        clear hK K
        try simp only [Act.put, List.getElem_toArray, List.getElem_cons_succ, List.getElem_cons_zero, List.setIfInBounds_toArray, List.set_cons_zero, List.set_cons_succ]
        have hI := oI.has
        have ms := Mk.of_below bI
        clear oI bI hcI
        have hM2 := hM1.trans ms
        replace oA := oA.kept ms
        refine wpAny_ready (rs := [7]) (by kernel_rfl) (by simp) ?_
        refine (AllReady.cons rfl (fun K hK => ?_) AllReady.nil)
        go_simp
        go_at_call 101
        refine (specEncodeInts AI NI cI (piN ps n) _ hI (by have := hI.1; have h1 := piN_len ps n; have := HSM.out; omega)).mono ?_
        rintro e u3 hob
        obtain ⟨vx, rfl, oX, ms⟩ := OwB.of hob
        obtain ⟨AX, LX, cX, rfl, hcX, hX, hlX⟩ := oX.slice
        first | refine hK _ _ ?_ | refine ⟨_, rfl, hK _ _ ?_⟩ | skip
        clear hK K
        try simp only [Act.put, List.getElem_toArray, List.getElem_cons_succ, List.getElem_cons_zero, List.setIfInBounds_toArray, List.set_cons_zero, List.set_cons_succ]
        rw [encN_all (piN ps n) NI hI.1.symm] at hX hlX
        have hX2 : (encL (piN ps n)).length ≤ 1000 := hXL.out
        replace hcX := hcX
        clear oX hI
        have hM3 := hM2.trans ms
        replace oA := oA.kept ms
        refine wpAny_ready (rs := [8]) (by kernel_rfl) (by simp) ?_
        refine (AllReady.cons rfl (fun K hK => ?_) AllReady.nil)
        refine step_appB (by rfl) (.tmp 17) (.tmp 20) (by rfl) (w.alloc (Obj.cells #[Value.slice a n c] 67)).heap.size va (bs ++ vb (n : Int)) (by rfl) oA AX LX cX (encL (piN ps n)) (by rfl) hcX hX (by have := hlX.out; have := hXL.out; have := HL.out; have := vb_len (n : Int); rw [List.length_append]; omega) hM3.size ?_
        intro v4 u4 ho4 hg4
        refine hK _ _ ?_
        clear hK K
        try simp only [Act.put, List.getElem_toArray, List.getElem_cons_succ, List.getElem_cons_zero, List.setIfInBounds_toArray, List.set_cons_zero, List.set_cons_succ]
        have hM4 := oA.gro0 hM3 hg4
        refine wpAny_ready (rs := [9]) (by kernel_rfl) (by simp) ?_
        refine (AllReady.cons rfl (fun K hK => ?_) AllReady.nil)
        go_simp
        refine hK _ _ ?_
        clear hK K
        try simp only [Act.put, List.getElem_toArray, List.getElem_cons_succ, List.getElem_cons_zero, List.setIfInBounds_toArray, List.set_cons_zero, List.set_cons_succ]
        refine wpAny_done (by kernel_rfl) ?_ _
        refine ‹∀ (a : Act) (w : World), _ → _› _ _ ?_
        clear oA hX hg4
        go_wp2_with fail
        go_ret
        exact OwB.out (by rw [← List.append_assoc]; exact ho4.low M0.size) (M0.trans hM4)
    · have d0 := IH.out _ hM0
      go_simp
      refine hK _ _ ?_
      clear hK K
      try simp only [Act.put, List.getElem_toArray, List.getElem_cons_succ, List.getElem_cons_zero, List.setIfInBounds_toArray, List.set_cons_zero, List.set_cons_succ]
      clear d0
      refine wpAny_ready (rs := [2]) (by kernel_rfl) (by simp) ?_
      refine (AllReady.cons rfl (fun K hK => ?_) AllReady.nil)
      have d0 := IH.out _ hM0
      go_simp
      refine hK _ _ ?_
      clear hK K
      try simp only [Act.put, List.getElem_toArray, List.getElem_cons_succ, List.getElem_cons_zero, List.setIfInBounds_toArray, List.set_cons_zero, List.set_cons_succ]
      clear d0
      refine wpAny_take (i := 3) (v := _) rfl (by kernel_rfl) (by kernel_rfl) (by kernel_rfl) (fun _ _ _ h => h) (Or.inl ⟨by rfl, fun w => by go_simp; try with_reducible rfl⟩) ?_
      try simp only [Act.put, List.getElem_toArray, List.getElem_cons_succ, List.getElem_cons_zero, List.setIfInBounds_toArray, List.set_cons_zero, List.set_cons_succ]
      refine wpAny_ready (rs := [4]) (by kernel_rfl) (by simp) ?_
      refine (AllReady.cons rfl (fun K hK => ?_) AllReady.nil)
      go_simp
      go_at_call 145
      refine (specVarint A1 L1 c1 (n : Int) bs _ hA1 hc1 (by have := hl1.out; have := HL.out; omega)).mono ?_
      rintro e u1 hob
      obtain ⟨va, rfl, oA, ms⟩ := OwB.of hob
      first | refine hK _ _ ?_ | refine ⟨_, rfl, hK _ _ ?_⟩ | skip
      clear hK K
      try simp only [Act.put, List.getElem_toArray, List.getElem_cons_succ, List.getElem_cons_zero, List.setIfInBounds_toArray, List.set_cons_zero, List.set_cons_succ]
      replace oA := oA.low hM0.size
      have hM1 := hM0.trans ms
      refine wpAny_ready (rs := [6]) (by kernel_rfl) (by simp) ?_
      refine (AllReady.cons rfl (fun K hK => ?_) AllReady.nil)
      go_simp
      go_at_call 146
      refine (specPInts a n c B ps _ (h.mk (M0.trans hM1) hB (.inr (Nat.le_refl _))) (Nat.le_trans hB (M0.trans hM1).size) hn).mono ?_
      rintro e u2 ⟨AI, NI, cI, rfl, hcI, oI, bI⟩
      first | refine hK _ _ ?_ | refine ⟨_, rfl, hK _ _ ?_⟩ | skip
      clear hK K
      try simp only [Act.put, List.getElem_toArray, List.getElem_cons_succ, List.getElem_cons_zero, List.setIfInBounds_toArray, List.set_cons_zero, List.set_cons_succ]
      have hI := oI.has
      have ms := Mk.of_below bI
      clear oI bI hcI
      have hM2 := hM1.trans ms
      replace oA := oA.kept ms
      refine wpAny_ready (rs := [7]) (by kernel_rfl) (by simp) ?_
      refine (AllReady.cons rfl (fun K hK => ?_) AllReady.nil)
      go_simp
      go_at_call 101
      refine (specEncodeInts AI NI cI (piN ps n) _ hI (by have := hI.1; have h1 := piN_len ps n; have := HSM.out; omega)).mono ?_
      rintro e u3 hob
      obtain ⟨vx, rfl, oX, ms⟩ := OwB.of hob
      obtain ⟨AX, LX, cX, rfl, hcX, hX, hlX⟩ := oX.slice
      first | refine hK _ _ ?_ | refine ⟨_, rfl, hK _ _ ?_⟩ | skip
      clear hK K
      try simp only [Act.put, List.getElem_toArray, List.getElem_cons_succ, List.getElem_cons_zero, List.setIfInBounds_toArray, List.set_cons_zero, List.set_cons_succ]
      rw [encN_all (piN ps n) NI hI.1.symm] at hX hlX
      have hX2 : (encL (piN ps n)).length ≤ 1000 := hXL.out
      replace hcX := hcX
      clear oX hI
      have hM3 := hM2.trans ms
      replace oA := oA.kept ms
      refine wpAny_ready (rs := [8]) (by kernel_rfl) (by simp) ?_
      refine (AllReady.cons rfl (fun K hK => ?_) AllReady.nil)
      refine step_appB (by rfl) (.tmp 17) (.tmp 20) (by rfl) (w.alloc (Obj.cells #[Value.slice a n c] 67)).heap.size va (bs ++ vb (n : Int)) (by rfl) oA AX LX cX (encL (piN ps n)) (by rfl) hcX hX (by have := hlX.out; have := hXL.out; have := HL.out; have := vb_len (n : Int); rw [List.length_append]; omega) hM3.size ?_
      intro v4 u4 ho4 hg4
      refine hK _ _ ?_
      clear hK K
      try simp only [Act.put, List.getElem_toArray, List.getElem_cons_succ, List.getElem_cons_zero, List.setIfInBounds_toArray, List.set_cons_zero, List.set_cons_succ]
      have hM4 := oA.gro0 hM3 hg4
      refine wpAny_ready (rs := [9]) (by kernel_rfl) (by simp) ?_
      refine (AllReady.cons rfl (fun K hK => ?_) AllReady.nil)
      go_simp
      refine hK _ _ ?_
      clear hK K
      try simp only [Act.put, List.getElem_toArray, List.getElem_cons_succ, List.getElem_cons_zero, List.setIfInBounds_toArray, List.set_cons_zero, List.set_cons_succ]
      refine wpAny_done (by kernel_rfl) ?_ _
      refine ‹∀ (a : Act) (w : World), _ → _› _ _ ?_
      clear oA hX hg4
      go_wp2_with fail
      go_ret
      exact OwB.out (by rw [← List.append_assoc]; exact ho4.low M0.size) (M0.trans hM4)

theorem specAppPathR (a : Option Addr) (n c B : Nat) (ps : List TPathPart) (ab : Option Addr) (nb cb B' : Nat) (bs : List Int) (w : World) (h : HasPathPart w B a n ps) (hB : B ≤ w.heap.size) (hn : szPathPart ps n ≤ 1048576) (hb : HasByte w B' ab nb bs) (hB' : B' ≤ w.heap.size) (hc0 : ab = none → cb = 0) (hnb : nb ≤ 1048576) :
    Calls Try.prog 102 #[.slice ab nb cb, .agg #[.slice a n c]] w (OutRows 1 (icell .u8) w (bs ++ pathBytes ps n)) :=
  (specAppPath a n c B ps ab nb cb bs w h hB hn (hasR_int.1 (hb.mono hB')) hc0 (by omega)).mono fun _ _ h => h.rows
end Go.Proofs.Ytpfjjfbheliinaa
