
/- The rates along a path, by the program. -/
import Derived.Test.YtldnfjpdhmjhoaaPrM
import Derived.Test.YtldnfjpdhmjhoaaFhIn
import Derived.Test.YtldnfjpdhmjhoaaStepA
namespace Go.Proofs.Ytldnfjpdhmjhoaa
open Go Go.Proofs Go.RowKit Go.Shelf Go.ChangeShapes Go.WideShapes Go.ChangeAt
set_option linter.unusedVariables false
attribute [local go_sem] Oper.semAt_some
theorem own_lowR1 {w : World} {lo lo' n : Nat} {e : TypeId} {v : Value} {xs : List Value} (h : w.ownsRow lo' e 1 v n xs) (hl : lo ≤ lo') : w.ownsRow lo e 1 v n xs := own_low h hl
set_option maxRecDepth 100000 in
set_option maxHeartbeats 16000000 in
theorem prates_in (gi now : Int) (al : Option Addr) (nl cl Bl : Nat) (zs : List TReservation) (a : Option Addr) (n c B : Nat) (ps : List TPathPart) (w : World) (hl : HasReservation w Bl al nl zs) (hBl : Bl ≤ w.heap.size) (hnl : nl ≤ 1048576) (h : HasPathPart w B a n ps) (hB : B ≤ w.heap.size) (hs : szPathPart ps n ≤ 1048576) :
    CallsIn Fence.wide 6 Try.prog 35 #[.slice al nl cl, .int .i64 gi, .agg #[.slice a n c], .int .i64 now] w fun e w' => ∃ v, e = .returned v ∧ w'.ownsRow w.heap.size 3 1 v ((filtUp leaves (pathSt ps n) (pathSt ps n).length).map (fun y : TStep => rrFrom zs gi y.nd y.eg now nl nl)).length (((filtUp leaves (pathSt ps n) (pathSt ps n).length).map (fun y : TStep => rrFrom zs gi y.nd y.eg now nl nl)).map (.int .i64)) ∧ Below w.heap.size w w' := by
  have hsS : (((((((w.alloc (Obj.cells #[Value.slice al nl cl] 40)).alloc (Obj.cells #[Value.int .i64 gi] 3)).alloc (Obj.cells #[Value.slice a n c] 30)).alloc (Obj.cells #[Value.int .i64 now] 3)).alloc (.cells #[] 3)).alloc (Obj.cells #[.slice (some ⟨w.heap.size + 1 + 1 + 1 + 1, 0, none⟩) 0 0] 63)).alloc (Obj.cells #[.slice a n c] 30)).heap.size = w.heap.size + 1 + 1 + 1 + 1 + 1 + 1 + 1 := by simp only [World.size_alloc]
  have hsN : ((((((w.alloc (Obj.cells #[Value.slice al nl cl] 40)).alloc (Obj.cells #[Value.int .i64 gi] 3)).alloc (Obj.cells #[Value.slice a n c] 30)).alloc (Obj.cells #[Value.int .i64 now] 3)).alloc (.cells #[] 3)).alloc (Obj.cells #[.slice (some ⟨w.heap.size + 1 + 1 + 1 + 1, 0, none⟩) 0 0] 63)).heap.size = w.heap.size + 1 + 1 + 1 + 1 + 1 + 1 := by simp only [World.size_alloc]
  have hsE : (((((w.alloc (Obj.cells #[Value.slice al nl cl] 40)).alloc (Obj.cells #[Value.int .i64 gi] 3)).alloc (Obj.cells #[Value.slice a n c] 30)).alloc (Obj.cells #[Value.int .i64 now] 3)).alloc (.cells #[] 3)).heap.size = w.heap.size + 1 + 1 + 1 + 1 + 1 := by simp only [World.size_alloc]
  have hsP : ((((w.alloc (Obj.cells #[Value.slice al nl cl] 40)).alloc (Obj.cells #[Value.int .i64 gi] 3)).alloc (Obj.cells #[Value.slice a n c] 30)).alloc (Obj.cells #[Value.int .i64 now] 3)).heap.size = w.heap.size + 1 + 1 + 1 + 1 := by simp only [World.size_alloc]
  have M0 : Mk0 w (((((((w.alloc (Obj.cells #[Value.slice al nl cl] 40)).alloc (Obj.cells #[Value.int .i64 gi] 3)).alloc (Obj.cells #[Value.slice a n c] 30)).alloc (Obj.cells #[Value.int .i64 now] 3)).alloc (.cells #[] 3)).alloc (Obj.cells #[.slice (some ⟨w.heap.size + 1 + 1 + 1 + 1, 0, none⟩) 0 0] 63)).alloc (Obj.cells #[.slice a n c] 30)) := (((((((Mk.alloc w (Obj.cells #[Value.slice al nl cl] 40)).new (Obj.cells #[Value.int .i64 gi] 3)).new (Obj.cells #[Value.slice a n c] 30)).new (Obj.cells #[Value.int .i64 now] 3)).new (.cells #[] 3)).new (Obj.cells #[.slice (some ⟨w.heap.size + 1 + 1 + 1 + 1, 0, none⟩) 0 0] 63)).new (Obj.cells #[.slice a n c] 30))
  obtain ⟨i0, hi, hz0, hz1, hz2⟩ := info_parts infoI64
  have hby : i0.bytes ≤ 8 := by rw [hz2]; decide
  have hlenR := Nat.le_trans (pathSt_le ps n) hs
  have o0 : (((((w.alloc (Obj.cells #[Value.slice al nl cl] 40)).alloc (Obj.cells #[Value.int .i64 gi] 3)).alloc (Obj.cells #[Value.slice a n c] 30)).alloc (Obj.cells #[Value.int .i64 now] 3)).alloc (.cells #[] 3)).ownsRow ((((w.alloc (Obj.cells #[Value.slice al nl cl] 40)).alloc (Obj.cells #[Value.int .i64 gi] 3)).alloc (Obj.cells #[Value.slice a n c] 30)).alloc (Obj.cells #[Value.int .i64 now] 3)).heap.size 3 1 (.slice (some ⟨((((w.alloc (Obj.cells #[Value.slice al nl cl] 40)).alloc (Obj.cells #[Value.int .i64 gi] 3)).alloc (Obj.cells #[Value.slice a n c] 30)).alloc (Obj.cells #[Value.int .i64 now] 3)).heap.size, 0, none⟩) 0 0) 0 (([] : List Int).map (.int .i64)) := own_lit ((((w.alloc (Obj.cells #[Value.slice al nl cl] 40)).alloc (Obj.cells #[Value.int .i64 gi] 3)).alloc (Obj.cells #[Value.slice a n c] 30)).alloc (Obj.cells #[Value.int .i64 now] 3)) 3 [] (by simp)
  rw [hsP] at o0
  have bN : Boxed ((((((w.alloc (Obj.cells #[Value.slice al nl cl] 40)).alloc (Obj.cells #[Value.int .i64 gi] 3)).alloc (Obj.cells #[Value.slice a n c] 30)).alloc (Obj.cells #[Value.int .i64 now] 3)).alloc (.cells #[] 3)).alloc (Obj.cells #[.slice (some ⟨w.heap.size + 1 + 1 + 1 + 1, 0, none⟩) 0 0] 63)) (((((w.alloc (Obj.cells #[Value.slice al nl cl] 40)).alloc (Obj.cells #[Value.int .i64 gi] 3)).alloc (Obj.cells #[Value.slice a n c] 30)).alloc (Obj.cells #[Value.int .i64 now] 3)).alloc (.cells #[] 3)).heap.size 63 (.slice (some ⟨w.heap.size + 1 + 1 + 1 + 1, 0, none⟩) 0 0) := Boxed.new (((((w.alloc (Obj.cells #[Value.slice al nl cl] 40)).alloc (Obj.cells #[Value.int .i64 gi] 3)).alloc (Obj.cells #[Value.slice a n c] 30)).alloc (Obj.cells #[Value.int .i64 now] 3)).alloc (.cells #[] 3)) 63 (.slice (some ⟨w.heap.size + 1 + 1 + 1 + 1, 0, none⟩) 0 0)
  rw [hsE] at bN
  have MQ := Mk.alloc ((((((w.alloc (Obj.cells #[Value.slice al nl cl] 40)).alloc (Obj.cells #[Value.int .i64 gi] 3)).alloc (Obj.cells #[Value.slice a n c] 30)).alloc (Obj.cells #[Value.int .i64 now] 3)).alloc (.cells #[] 3)).alloc (Obj.cells #[.slice (some ⟨w.heap.size + 1 + 1 + 1 + 1, 0, none⟩) 0 0] 63)) (Obj.cells #[.slice a n c] 30)
  have bS : Boxed (((((((w.alloc (Obj.cells #[Value.slice al nl cl] 40)).alloc (Obj.cells #[Value.int .i64 gi] 3)).alloc (Obj.cells #[Value.slice a n c] 30)).alloc (Obj.cells #[Value.int .i64 now] 3)).alloc (.cells #[] 3)).alloc (Obj.cells #[.slice (some ⟨w.heap.size + 1 + 1 + 1 + 1, 0, none⟩) 0 0] 63)).alloc (Obj.cells #[.slice a n c] 30)) (w.heap.size + 1 + 1 + 1 + 1 + 1) 63 (.slice (some ⟨w.heap.size + 1 + 1 + 1 + 1, 0, none⟩) 0 0) := (MQ.block _ bN.lt (.inr (Nat.zero_le _))).trans bN
  have oS := own_keptR (own_keptR o0 (Mk.alloc (((((w.alloc (Obj.cells #[Value.slice al nl cl] 40)).alloc (Obj.cells #[Value.int .i64 gi] 3)).alloc (Obj.cells #[Value.slice a n c] 30)).alloc (Obj.cells #[Value.int .i64 now] 3)).alloc (.cells #[] 3)) (Obj.cells #[.slice (some ⟨w.heap.size + 1 + 1 + 1 + 1, 0, none⟩) 0 0] 63))) MQ
  have k0 : (((((((w.alloc (Obj.cells #[Value.slice al nl cl] 40)).alloc (Obj.cells #[Value.int .i64 gi] 3)).alloc (Obj.cells #[Value.slice a n c] 30)).alloc (Obj.cells #[Value.int .i64 now] 3)).alloc (.cells #[] 3)).alloc (Obj.cells #[.slice (some ⟨w.heap.size + 1 + 1 + 1 + 1, 0, none⟩) 0 0] 63)).alloc (Obj.cells #[.slice a n c] 30)).cell? ⟨w.heap.size, 0, none⟩ = some (.slice al nl cl) := by simp [go_sem]
  have k1 : (((((((w.alloc (Obj.cells #[Value.slice al nl cl] 40)).alloc (Obj.cells #[Value.int .i64 gi] 3)).alloc (Obj.cells #[Value.slice a n c] 30)).alloc (Obj.cells #[Value.int .i64 now] 3)).alloc (.cells #[] 3)).alloc (Obj.cells #[.slice (some ⟨w.heap.size + 1 + 1 + 1 + 1, 0, none⟩) 0 0] 63)).alloc (Obj.cells #[.slice a n c] 30)).cell? ⟨w.heap.size + 1, 0, none⟩ = some (.int .i64 gi) := by simp [go_sem]
  have k2 : (((((((w.alloc (Obj.cells #[Value.slice al nl cl] 40)).alloc (Obj.cells #[Value.int .i64 gi] 3)).alloc (Obj.cells #[Value.slice a n c] 30)).alloc (Obj.cells #[Value.int .i64 now] 3)).alloc (.cells #[] 3)).alloc (Obj.cells #[.slice (some ⟨w.heap.size + 1 + 1 + 1 + 1, 0, none⟩) 0 0] 63)).alloc (Obj.cells #[.slice a n c] 30)).cell? ⟨w.heap.size + 1 + 1, 0, none⟩ = some (.slice a n c) := by simp [go_sem]
  have k3 : (((((((w.alloc (Obj.cells #[Value.slice al nl cl] 40)).alloc (Obj.cells #[Value.int .i64 gi] 3)).alloc (Obj.cells #[Value.slice a n c] 30)).alloc (Obj.cells #[Value.int .i64 now] 3)).alloc (.cells #[] 3)).alloc (Obj.cells #[.slice (some ⟨w.heap.size + 1 + 1 + 1 + 1, 0, none⟩) 0 0] 63)).alloc (Obj.cells #[.slice a n c] 30)).cell? ⟨w.heap.size + 1 + 1 + 1, 0, none⟩ = some (.int .i64 now) := by simp [go_sem]
  have hbp : (((((((w.alloc (Obj.cells #[Value.slice al nl cl] 40)).alloc (Obj.cells #[Value.int .i64 gi] 3)).alloc (Obj.cells #[Value.slice a n c] 30)).alloc (Obj.cells #[Value.int .i64 now] 3)).alloc (.cells #[] 3)).alloc (Obj.cells #[.slice (some ⟨w.heap.size + 1 + 1 + 1 + 1, 0, none⟩) 0 0] 63)).alloc (Obj.cells #[.slice a n c] 30)).cell? ⟨w.heap.size + 1 + 1 + 1 + 1 + 1 + 1, 0, none⟩ = some (.slice a n c) := by simp [go_sem]
  have hHS := h.mk M0 hB (.inr (Nat.le_refl _))
  have hBS : B ≤ (((((((w.alloc (Obj.cells #[Value.slice al nl cl] 40)).alloc (Obj.cells #[Value.int .i64 gi] 3)).alloc (Obj.cells #[Value.slice a n c] 30)).alloc (Obj.cells #[Value.int .i64 now] 3)).alloc (.cells #[] 3)).alloc (Obj.cells #[.slice (some ⟨w.heap.size + 1 + 1 + 1 + 1, 0, none⟩) 0 0] 63)).alloc (Obj.cells #[.slice a n c] 30)).heap.size := Nat.le_trans hB M0.size
  have hstops := Lib.hid (egr_stops (w.heap.size + 1 + 1 + 1 + 1 + 1 + 1) (w.heap.size + 1 + 1 + 1 + 1 + 1) 63 a n c B ps (((((((w.alloc (Obj.cells #[Value.slice al nl cl] 40)).alloc (Obj.cells #[Value.int .i64 gi] 3)).alloc (Obj.cells #[Value.slice a n c] 30)).alloc (Obj.cells #[Value.int .i64 now] 3)).alloc (.cells #[] 3)).alloc (Obj.cells #[.slice (some ⟨w.heap.size + 1 + 1 + 1 + 1, 0, none⟩) 0 0] 63)).alloc (Obj.cells #[.slice a n c] 30)) (by omega) hbp hHS hBS hs _ bS (fun g hg => by simp [Value.ownBlock] at hg; omega))
  have hM0 := Lib.hid M0
  have hB0 : Below w.heap.size w (((((((w.alloc (Obj.cells #[Value.slice al nl cl] 40)).alloc (Obj.cells #[Value.int .i64 gi] 3)).alloc (Obj.cells #[Value.slice a n c] 30)).alloc (Obj.cells #[Value.int .i64 now] 3)).alloc (.cells #[] 3)).alloc (Obj.cells #[.slice (some ⟨w.heap.size + 1 + 1 + 1 + 1, 0, none⟩) 0 0] 63)).alloc (Obj.cells #[.slice a n c] 30)) := M0.below0
  clear MQ bN o0 hHS hBS hbp M0
  refine callsIn_of_wp_marks Try.func35 rfl trivial ?_ rfl
  simp only [Try.ntmps35, List.size_toArray, List.length_cons, List.length_nil, Nat.reduceAdd, Nat.reduceSub, Array.replicate_succ, Array.replicate_zero, List.push_toArray, List.append_toArray, List.nil_append, List.cons_append]
  gi_wp2_with fail
  refine ⟨trivial, ?_⟩
  refine (egr_in a n c _).mono ?_
  rintro e w' ⟨rfl, rfl⟩
  gi_wp2_with fail
  generalize (((((((w.alloc (Obj.cells #[Value.slice al nl cl] 40)).alloc (Obj.cells #[Value.int .i64 gi] 3)).alloc (Obj.cells #[Value.slice a n c] 30)).alloc (Obj.cells #[Value.int .i64 now] 3)).alloc (.cells #[] 3)).alloc (Obj.cells #[.slice (some ⟨w.heap.size + 1 + 1 + 1 + 1, 0, none⟩) 0 0] 63)).alloc (Obj.cells #[.slice a n c] 30)) = wS at *
  refine wpIn_rangeFunc_ownH rfl (by decide) (gf := 46) (lb := #[.pointer (some ⟨w.heap.size + 1 + 1 + 1 + 1 + 1 + 1, 0, none⟩)]) rfl trivial (enters_of Try.func46 (by kernel_rfl) rfl)
    hstops.out KpB.t (KpB.b (by omega)) (Below.refl _ _) (fun _ => rfl)
    (fun (pre : List TStep) W => (∃ v, Boxed W (w.heap.size + 1 + 1 + 1 + 1 + 1) 63 v ∧ W.ownsRow (w.heap.size + 1 + 1 + 1 + 1) 3 1 v pre.length ((pre.map (fun y : TStep => rrFrom zs gi y.nd y.eg now nl nl)).map (Value.int .i64)) ∧ True) ∧ Below (w.heap.size + 1 + 1 + 1 + 1) wS W)
    (fun _ _ _ => False)
    (OwnFrom.and (Own.from (holdsRow_own (w.heap.size + 1 + 1 + 1 + 1) (w.heap.size + 1 + 1 + 1 + 1 + 1) 63 3 1 (fun pre : List TStep => pre.length) (fun pre : List TStep => (pre.map (fun y : TStep => rrFrom zs gi y.nd y.eg now nl nl)).map (Value.int .i64)) (fun (pre : List TStep) v => True)) _) (ownFrom_below (by omega) (by omega)))
    (fun _ _ _ _ _ hs _ _ => hs)
    ⟨⟨_, bS, oS, trivial⟩, Below.refl _ _⟩
    (fun y a' W => ∃ hb, w.heap.size + 1 + 1 + 1 + 1 + 1 + 1 + 1 ≤ hb ∧ a' = { tmps := #[.slice al nl cl, .int .i64 gi, .agg #[.slice a n c], .int .i64 now, .pointer (some ⟨w.heap.size, 0, none⟩), .pointer (some ⟨w.heap.size + 1, 0, none⟩), .pointer (some ⟨w.heap.size + 1 + 1, 0, none⟩), .pointer (some ⟨w.heap.size + 1 + 1 + 1, 0, none⟩), .slice none 0 0, .pointer (some ⟨w.heap.size + 1 + 1 + 1 + 1 + 1, 0, none⟩), .pointer (some ⟨hb, 0, none⟩), .slice (some ⟨w.heap.size + 1 + 1 + 1 + 1, 0, none⟩) 0 0, .agg #[.slice a n c], .func (.func 46) #[] #[.pointer (some ⟨w.heap.size + 1 + 1 + 1 + 1 + 1 + 1, 0, none⟩)], .agg #[.int .i64 y.nd, .int .i64 y.ing, .int .i64 y.eg], undef, undef, undef, undef, undef, undef, undef, undef, undef, undef, undef, undef], defers := [] } ∧ W.cell? ⟨hb, 0, none⟩ = some (.int .i64 y.nd) ∧ W.cell? ⟨hb, 1, none⟩ = some (.int .i64 y.ing) ∧ W.cell? ⟨hb, 2, none⟩ = some (.int .i64 y.eg))
    (fun x a' => Own.from (fun s A B row hs hg hr => (by obtain ⟨hb, e1, e2, e3, e4, e5⟩ := hs; exact ⟨hb, e1, e2, Go.cell_kept e3 hg hr, Go.cell_kept e4 hg hr, Go.cell_kept e5 hg hr⟩)) _) ?assign ?body ?done ?stop
  case assign =>
    intro l pre y W K hI hK
    obtain ⟨⟨v, hv, hrow, _⟩, hBW⟩ := hI
    have mA := Mk.alloc W (Obj.cells #[.int .i64 y.nd, .int .i64 y.ing, .int .i64 y.eg] 49)
    have hz := hv.lt
    have hzW := hBW.size
    gi_wp2
    refine hK _ _ (KeepsFrom.of_grownBy (World.grownBy_alloc W _ none) (fun _ e => by cases e)) (KpB.mk mA) ⟨⟨v, (mA.block _ hv.lt (.inr (Nat.zero_le _))).trans hv, own_keptR hrow mA, trivial⟩, hBW.trans (mA.below0.mono (by omega))⟩ ⟨W.heap.size, by omega, rfl, ?_, ?_, ?_⟩
    all_goals simp [go_sem]
  case body =>
    rintro l pre y a' W hll hrr ⟨⟨vr, hv, hrow, _⟩, hBW⟩ ⟨hb, hhb, rfl, c0, c1, c2⟩ hlt
    have hzW := hBW.size
    have hBw : Below w.heap.size w W := hB0.trans (hBW.mono (by omega))
    have MW := Mk.of_below hBw
    have hlW := hl.mk MW hBl (.inr (Nat.le_refl _))
    have hBlW := Nat.le_trans hBl MW.size
    replace k0 := (hBW.cell (p := ⟨w.heap.size, 0, none⟩) (by simp only; omega)).trans k0
    replace k1 := (hBW.cell (p := ⟨w.heap.size + 1, 0, none⟩) (by simp only; omega)).trans k1
    replace k2 := (hBW.cell (p := ⟨w.heap.size + 1 + 1, 0, none⟩) (by simp only; omega)).trans k2
    replace k3 := (hBW.cell (p := ⟨w.heap.size + 1 + 1 + 1, 0, none⟩) (by simp only; omega)).trans k3
    have q9 := hv.cell
    have f9 : ∀ q, W.frozen? ⟨w.heap.size + 1 + 1 + 1 + 1 + 1, q, none⟩ = false := fun q => by simp [World.frozen?, show W.heap[w.heap.size + 1 + 1 + 1 + 1 + 1]? = _ from hv]
    have hv9 := hv.lt
    obtain ⟨PL, hPL⟩ : ∃ L, Hid (L = pre.map (fun y : TStep => rrFrom zs gi y.nd y.eg now nl nl)) := ⟨_, Lib.hid rfl⟩
    rw [← hPL.out] at hrow
    obtain ⟨V, hV⟩ : ∃ V, Hid (V = (rrFrom zs gi y.nd y.eg now nl nl)) := ⟨_, Lib.hid rfl⟩
    gi_wp2_with fail
    refine wpIn_region_fh (fun (g : Bxs) w' => (Mk0 W w' ∧ w'.cell? ⟨w.heap.size + 1 + 1 + 1 + 1 + 1, 0, none⟩ = some (vr) ∧ w'.cell? ⟨w.heap.size, 0, none⟩ = some (.slice al nl cl) ∧ w'.cell? ⟨w.heap.size + 1, 0, none⟩ = some (.int .i64 gi) ∧ w'.cell? ⟨w.heap.size + 1 + 1 + 1, 0, none⟩ = some (.int .i64 now) ∧ w'.cell? ⟨hb, 0, none⟩ = some (.int .i64 y.nd) ∧ w'.cell? ⟨hb, 2, none⟩ = some (.int .i64 y.eg)) ∧ BxS W.heap.size g w') (fhF [fun g x wv => (x 0) = vr, fun g x wv => (x 1) = .slice al nl cl, fun g x wv => (x 2) = .int .i64 gi, fun g x wv => (x 3) = .pointer (some ⟨hb, 0, none⟩), fun g x wv => (x 4) = .int .i64 y.nd, fun g x wv => (x 5) = .pointer (some ⟨hb, 2, none⟩), fun g x wv => (x 6) = .int .i64 y.eg, fun g x wv => (x 7) = .int .i64 now, fun g x wv => (x 8) = .int .i64 V, fun g x wv => ∃ NB, (x 9) = .slice (some ⟨NB, 0, none⟩) 1 1 ∧ wv.cell? ⟨NB, 0, none⟩ = some (.int .i64 V) ∧ NB < wv.heap.size]) BxX (fun _ _ => False) (spL [[0], [1], [2], [3], [4], [5], [6], [7], [8], [9]]) 12 10 (fun ⟨_, _, h⟩ => h) (by kernel_rfl) (by kernel_rfl) (by kernel_rfl) (by kernel_rfl) (by decide) (by decide) (by kernel_rfl) (fun h => absurd h (by decide)) (fhM_mono ⟨fun g g' v w w' h x => h, fun g g' v w w' h x => h, fun g g' v w w' h x => h, fun g g' v w w' h x => h, fun g g' v w w' h x => h, fun g g' v w w' h x => h, fun g g' v w w' h x => h, fun g g' v w w' h x => h, fun g g' v w w' h x => h, fun g g' v w w' h x => (by obtain ⟨NB, e, q, d⟩ := h; exact ⟨NB, e, x.far.cellAt q, Nat.lt_of_lt_of_le d x.far.size⟩), trivial⟩) ⟨⟨Mk.drew1 _, q9, k0, k1, k3, c0, c2⟩, BxS.none_ _ _⟩ ?_
    change WkH _ _ _ _ _ _ _ 12 10 10 0 _
    refine WkH.value (m := 9) (k := 0) (by decide) rfl rfl (of_decide_eq_true (by rfl)) rfl (fun g wv hS hF => ?_) (fun v0 => ?_)
    · obtain ⟨⟨s0, s1, s2, s3, s4, s5, s6⟩, hB2⟩ := hS
      exact ⟨vr, wv, g, (by go_simp; try with_reducible rfl), ⟨⟨s0, s1, s2, s3, s4, s5, s6⟩, hB2⟩, BxX.same (Mk.refl _ _ _), rfl⟩
    try simp only [Act.put, List.getElem_toArray, List.getElem_cons_zero, List.setIfInBounds_toArray, List.set_cons_zero, List.set_cons_succ]
    refine WkH.value (m := 8) (k := 1) (by decide) rfl rfl (of_decide_eq_true (by rfl)) rfl (fun g wv hS hF => ?_) (fun v1 => ?_)
    · obtain ⟨⟨s0, s1, s2, s3, s4, s5, s6⟩, hB2⟩ := hS
      exact ⟨.slice al nl cl, wv, g, (by go_simp; try with_reducible rfl), ⟨⟨s0, s1, s2, s3, s4, s5, s6⟩, hB2⟩, BxX.same (Mk.refl _ _ _), rfl⟩
    try simp only [Act.put, List.getElem_toArray, List.getElem_cons_succ, List.getElem_cons_zero, List.setIfInBounds_toArray, List.set_cons_zero, List.set_cons_succ]
    refine WkH.value (m := 7) (k := 2) (by decide) rfl rfl (of_decide_eq_true (by rfl)) rfl (fun g wv hS hF => ?_) (fun v2 => ?_)
    · obtain ⟨⟨s0, s1, s2, s3, s4, s5, s6⟩, hB2⟩ := hS
      exact ⟨.int .i64 gi, wv, g, (by go_simp; try with_reducible rfl), ⟨⟨s0, s1, s2, s3, s4, s5, s6⟩, hB2⟩, BxX.same (Mk.refl _ _ _), rfl⟩
    try simp only [Act.put, List.getElem_toArray, List.getElem_cons_succ, List.getElem_cons_zero, List.setIfInBounds_toArray, List.set_cons_zero, List.set_cons_succ]
    refine WkH.value (m := 6) (k := 3) (by decide) rfl rfl (of_decide_eq_true (by rfl)) rfl (fun g wv hS hF => ?_) (fun v3 => ?_)
    · obtain ⟨⟨s0, s1, s2, s3, s4, s5, s6⟩, hB2⟩ := hS
      exact ⟨.pointer (some ⟨hb, 0, none⟩), wv, g, (by go_simp; try with_reducible rfl), ⟨⟨s0, s1, s2, s3, s4, s5, s6⟩, hB2⟩, BxX.same (Mk.refl _ _ _), rfl⟩
    try simp only [Act.put, List.getElem_toArray, List.getElem_cons_succ, List.getElem_cons_zero, List.setIfInBounds_toArray, List.set_cons_zero, List.set_cons_succ]
    refine WkH.value (m := 5) (k := 4) (by decide) rfl rfl (of_decide_eq_true (by rfl)) rfl (fun g wv hS hF => ?_) (fun v4 => ?_)
    · obtain ⟨⟨s0, s1, s2, s3, s4, s5, s6⟩, hB2⟩ := hS
      have f3 : v3 = .pointer (some ⟨hb, 0, none⟩) := hF 3 (by rfl)
      obtain rfl := f3
      exact ⟨.int .i64 y.nd, wv, g, (by go_simp; try with_reducible rfl), ⟨⟨s0, s1, s2, s3, s4, s5, s6⟩, hB2⟩, BxX.same (Mk.refl _ _ _), rfl⟩
    try simp only [Act.put, List.getElem_toArray, List.getElem_cons_succ, List.getElem_cons_zero, List.setIfInBounds_toArray, List.set_cons_zero, List.set_cons_succ]
    refine WkH.value (m := 4) (k := 5) (by decide) rfl rfl (of_decide_eq_true (by rfl)) rfl (fun g wv hS hF => ?_) (fun v5 => ?_)
    · obtain ⟨⟨s0, s1, s2, s3, s4, s5, s6⟩, hB2⟩ := hS
      exact ⟨.pointer (some ⟨hb, 2, none⟩), wv, g, (by go_simp; try with_reducible rfl), ⟨⟨s0, s1, s2, s3, s4, s5, s6⟩, hB2⟩, BxX.same (Mk.refl _ _ _), rfl⟩
    try simp only [Act.put, List.getElem_toArray, List.getElem_cons_succ, List.getElem_cons_zero, List.setIfInBounds_toArray, List.set_cons_zero, List.set_cons_succ]
    refine WkH.value (m := 3) (k := 6) (by decide) rfl rfl (of_decide_eq_true (by rfl)) rfl (fun g wv hS hF => ?_) (fun v6 => ?_)
    · obtain ⟨⟨s0, s1, s2, s3, s4, s5, s6⟩, hB2⟩ := hS
      have f5 : v5 = .pointer (some ⟨hb, 2, none⟩) := hF 5 (by rfl)
      obtain rfl := f5
      exact ⟨.int .i64 y.eg, wv, g, (by go_simp; try with_reducible rfl), ⟨⟨s0, s1, s2, s3, s4, s5, s6⟩, hB2⟩, BxX.same (Mk.refl _ _ _), rfl⟩
    try simp only [Act.put, List.getElem_toArray, List.getElem_cons_succ, List.getElem_cons_zero, List.setIfInBounds_toArray, List.set_cons_zero, List.set_cons_succ]
    refine WkH.value (m := 2) (k := 7) (by decide) rfl rfl (of_decide_eq_true (by rfl)) rfl (fun g wv hS hF => ?_) (fun v7 => ?_)
    · obtain ⟨⟨s0, s1, s2, s3, s4, s5, s6⟩, hB2⟩ := hS
      exact ⟨.int .i64 now, wv, g, (by go_simp; try with_reducible rfl), ⟨⟨s0, s1, s2, s3, s4, s5, s6⟩, hB2⟩, BxX.same (Mk.refl _ _ _), rfl⟩
    try simp only [Act.put, List.getElem_toArray, List.getElem_cons_succ, List.getElem_cons_zero, List.setIfInBounds_toArray, List.set_cons_zero, List.set_cons_succ]
    refine WkH.call (m := 1) (k := 8) (by decide) rfl rfl (of_decide_eq_true (by rfl)) rfl (fun g wv hS hF => ?_) (fun v8 => ?_)
    · obtain ⟨⟨s0, s1, s2, s3, s4, s5, s6⟩, hB2⟩ := hS
      have f1 : v1 = .slice al nl cl := hF 1 (by rfl)
      obtain rfl := f1
      have f2 : v2 = .int .i64 gi := hF 2 (by rfl)
      obtain rfl := f2
      have f4 : v4 = .int .i64 y.nd := hF 4 (by rfl)
      obtain rfl := f4
      have f6 : v6 = .int .i64 y.eg := hF 6 (by rfl)
      obtain rfl := f6
      have f7 : v7 = .int .i64 now := hF 7 (by rfl)
      obtain rfl := f7
      refine ⟨_, _, (by go_simp; first | done | exact ⟨rfl, rfl⟩ | with_reducible rfl), ?_⟩
      refine ((implRRate gi y.nd y.eg now al nl cl Bl zs wv (hlW.mk s0 hBlW (.inr (Nat.le_refl _))) (Nat.le_trans hBlW s0.size) hnl)).mono ?_
      rintro e w' ⟨rfl, mm⟩
      exact ⟨_, g, rfl, ⟨⟨s0.trans mm, mm.cellAt s1, mm.cellAt s2, mm.cellAt s3, mm.cellAt s4, mm.cellAt s5, mm.cellAt s6⟩, hB2.mk0 mm⟩, BxX.same mm, congrArg (Value.int .i64) hV.out.symm⟩
    try simp only [Act.put, List.getElem_toArray, List.getElem_cons_succ, List.getElem_cons_zero, List.setIfInBounds_toArray, List.set_cons_zero, List.set_cons_succ]
    refine WkH.value (m := 0) (k := 9) (by decide) rfl rfl (of_decide_eq_true (by rfl)) rfl (fun g wv hS hF => ?_) (fun v9 => ?_)
    · obtain ⟨⟨s0, s1, s2, s3, s4, s5, s6⟩, hB2⟩ := hS
      have f8 : v8 = .int .i64 V := hF 8 (by rfl)
      obtain rfl := f8
      have mm := Mk.alloc wv (Obj.cells #[.int .i64 V] 3)
      exact ⟨.slice (some ⟨wv.heap.size, 0, none⟩) 1 1, (wv.alloc (Obj.cells #[.int .i64 V] 3)), g, (by go_simp; try with_reducible rfl), ⟨⟨s0.trans mm, mm.cellAt s1, mm.cellAt s2, mm.cellAt s3, mm.cellAt s4, mm.cellAt s5, mm.cellAt s6⟩, hB2.mk0 mm⟩, BxX.same mm, ⟨wv.heap.size, rfl, by rw [World.cell?_alloc_at _ _ _ _ rfl]; rfl, by rw [World.size_alloc]; omega⟩⟩
    try simp only [Act.put, List.getElem_toArray, List.getElem_cons_succ, List.getElem_cons_zero, List.setIfInBounds_toArray, List.set_cons_zero, List.set_cons_succ]
    refine WkH.done fun gE wE hE hF => ?_
    clear q9 k0 k1 k3 c0 c2
    obtain ⟨⟨mE, q9, k0, k1, k3, c0, c2⟩, hBE⟩ := hE
    change wpAny _ _ _ _ 2 _ _ _
    have f9 : ∃ NB, v9 = .slice (some ⟨NB, 0, none⟩) 1 1 ∧ wE.cell? ⟨NB, 0, none⟩ = some (.int .i64 V) ∧ NB < wE.heap.size := hF 9 (by decide)
    obtain ⟨NB, rfl, qN, dN⟩ := f9
    have f0 : v0 = vr := hF 0 (by decide)
    replace f0 := f0.symm
    subst f0
    clear hF
    have hvE : Boxed wE (w.heap.size + 1 + 1 + 1 + 1 + 1) 63 vr := (mE.block _ hv9 (.inr (Nat.zero_le _))).trans hv
    have hrowE := own_keptR hrow mE
    have hzE := mE.size
    have hlt2 : pre.length + 1 ≤ 1048577 := by omega
    have hPLl : PL.length = pre.length := by rw [hPL.out, List.length_map]
    rw [← hPLl] at hrowE
    have f9E : ∀ q, wE.frozen? ⟨w.heap.size + 1 + 1 + 1 + 1 + 1, q, none⟩ = false := fun q => (mE.frozen (b := w.heap.size + 1 + 1 + 1 + 1 + 1) (o := q) (by omega) (.inr (Nat.zero_le _))).trans (f9 q)
    refine wpAny_ready (rs := [10]) (by kernel_rfl) (by simp) ?_
    refine (AllReady.cons rfl (fun KK hKK => ?_) AllReady.nil)
    refine step_app (k := .i64) (by rfl) (.tmp 15) (.tmp 24) 63 (by rfl) (w.heap.size + 1 + 1 + 1 + 1) 3 i0 Try.underlying63 hi hz0 hz1 hby vr PL PL.length (by rfl) hrowE ⟨NB, 0, none⟩ 1 1 [V] (by rfl) (has_one qN dN) (by omega) (by omega) ?_
    intro v' u4 hown' hgrow hat
    obtain ⟨A4, C4, rfl, hca4, hcb4⟩ := ownsRow_sliceR2 hown'
    refine hKK _ _ ?_
    clear hKK KK
    try simp only [Act.put, List.getElem_toArray, List.getElem_cons_succ, List.getElem_cons_zero, List.setIfInBounds_toArray, List.set_cons_zero, List.set_cons_succ]
    have HPL := Lib.hid hPLl
    clear hPLl hrow
    have hv4 : Boxed u4 (w.heap.size + 1 + 1 + 1 + 1 + 1) 63 vr := hvE.kept hgrow (hvE.not_row (by decide) hrowE)
    have f94 : ∀ q, u4.frozen? ⟨w.heap.size + 1 + 1 + 1 + 1 + 1, q, none⟩ = false := fun q => by simp [World.frozen?, show u4.heap[w.heap.size + 1 + 1 + 1 + 1 + 1]? = _ from hv4]
    have q94 := hv4.cell
    have z4 := hgrow.size
    refine wpAny_ready (rs := [11]) (by kernel_rfl) (by simp) ?_
    refine (AllReady.cons rfl (fun K hK => ?_) AllReady.nil)
    go_simp
    refine hK _ _ ?_
    clear hK K
    try simp only [Act.put, List.getElem_toArray, List.getElem_cons_succ, List.getElem_cons_zero, List.setIfInBounds_toArray, List.set_cons_zero, List.set_cons_succ]
    refine wpAny_doneN (by kernel_rfl) ?_
    have hv5 := hv4.set (.slice A4 (PL.length + 1) C4)
    have ho5 := hown'.kept (grownBy_setCell' u4 (w.heap.size + 1 + 1 + 1 + 1 + 1) (.slice A4 (PL.length + 1) C4)) (.inr (hv4.not_row (by decide) hown').symm)
    have hK5 : KeepsFrom wS.heap.size W (u4.setCell ⟨w.heap.size + 1 + 1 + 1 + 1 + 1, 0, none⟩ (.slice A4 (PL.length + 1) C4)) := (KeepsFrom.trans ⟨mE.size, fun k o _ hk _ => (mE.block k (Array.getElem?_eq_some_iff.1 hk).1 (.inr (Nat.zero_le _))).trans hk⟩ ((KeepsOthers.of_grownBy hgrow fun j o ej hj => ?kk).from _)).trans (KeepsFrom.of_grownBy (grownBy_setCell' _ _ _) (fun _ e => by cases e; omega))
    have hP5 := KpB.app (n₀ := wS.heap.size) mE hv hgrow (by omega) hv5 hat
    have hB5 : Below (w.heap.size + 1 + 1 + 1 + 1) W (u4.setCell ⟨w.heap.size + 1 + 1 + 1 + 1 + 1, 0, none⟩ (.slice A4 (PL.length + 1) C4)) := ((mE.below0.mono (by omega)).grown hgrow (by omega) (fun j ej => (hrowE.lt j ej).1)).setCell (p := ⟨w.heap.size + 1 + 1 + 1 + 1 + 1, 0, none⟩) (by simp only; omega) (.slice A4 (PL.length + 1) C4)
    gi_wp2
    refine ⟨hK5, hP5, ⟨_, hv5, ?_, trivial⟩, hBW.trans hB5⟩
    rw [List.map_append, List.length_append, ← hPL.out, ← HPL.out, show List.map (fun y : TStep => rrFrom zs gi y.nd y.eg now nl nl) [y] = [V] by rw [hV.out]; rfl]
    exact ho5
    case kk =>
      rcases hrowE.2 with ⟨e9, _⟩ | ⟨g9, cap9, cur9, e9, _, hgb9, _⟩
      · rw [e9] at ej; simp [Value.ownBlock] at ej
      · rw [e9] at ej; obtain rfl : g9 = j := by simpa [Value.ownBlock] using ej
        rw [hgb9] at hj; cases hj; rfl
  case done =>
    rintro D ys W hD rfl ⟨⟨v, hv, hrow, _⟩, hBW⟩ hK
    have hc := hv.cell
    have hzW := hBW.size
    have hBw : Below w.heap.size w W := hB0.trans (hBW.mono (by omega))
    gi_wp2
    refine ⟨by simp, .inl ⟨_, _, rfl, run_takeDeferred hK, ?_⟩⟩
    exact ⟨_, results_tmp rfl _ _ _, v, rfl, by rw [List.length_map]; exact ownsRow_putObj (own_lowR1 hrow (by omega)) _ hK rfl, hBw.trans (belowK_b (w := w) (Nat.le_refl _) W D _ _ (by omega) hK rfl rfl)⟩
  case stop =>
    rintro D c pre W _ _ h _
    exact h.elim

end Go.Proofs.Ytldnfjpdhmjhoaa
