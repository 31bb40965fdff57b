
/- errors.As at an error of the package's own struct (violation), the target a variable of that struct: at nil, and at a hit. -/
import Derived.Test.YtdhdkhnefnbdgaaGreatDoorRow
import Derived.Test.YtdhdkhnefnbdgaaGreatDoorProg
import Derived.WalkKit
import Derived.LaidEql
import Derived.Stop.Asserts
import Derived.RowKitTokens
import Derived.Test.YtdhdkhnefnbdgaaGreatDoorVHops
import Derived.Test.YtdhdkhnefnbdgaaGreatDoorSgKS
import Derived.Test.YtdhdkhnefnbdgaaGreatDoorContI
import Derived.Test.YtdhdkhnefnbdgaaGreatDoorKindOf
import Derived.Test.YtdhdkhnefnbdgaaGreatDoorRealm
import Derived.Test.YtdhdkhnefnbdgaaGreatDoorBetaAt
namespace Go.Proofs.YtdhdkhnefnbdgaaGreatDoor
open Go.RowKit Go.Extern.Stop Go.Stop Go.Extern
set_option linter.unusedVariables false

/-- errors.As(nil, target). -/
theorem as_nil (t : Value) (w : World) :
    Calls Tryz.prog 81 #[.nilIface, t] w fun e w' => e = .returned (.bool false) ∧ w' = w := by
  go_enter Tryz.func81, Tryz.ntmps81
  go_wp2
  go_ret
  exact ⟨rfl, rfl⟩

theorem as_valueOfP (t : Addr) (w : World) : (ReflectliteValue.unpack (.iface 119 (.pointer (some t)))).run Tryz.prog w
    = .ok (.agg #[.pointer (some ⟨1, 119, none⟩), .pointer (some ⟨w.heap.size, 0, none⟩), .int .u64 150]) (w.alloc (.cells #[.pointer (some t)] 119)) := by kernel_rfl
theorem as_typeP (a : Addr) (w : World) : (ReflectliteValue.methodAny (ReflectliteValue.valueError "reflectlite.Value.Type" 0) (fun t _ _ _ => ReflectliteType.toType t) #[.agg #[.pointer (some ⟨1, 119, none⟩), .pointer (some a), .int .u64 150]]).run Tryz.prog w
    = .ok (.iface 142 (.agg #[.pointer (some ⟨1, 119, none⟩)])) w := by kernel_rfl
theorem as_mKind (n : Nat) (h : Value) (w : World) : (Go.method (n + 1) 142 (.agg #[h]) "Kind").run Tryz.prog w = .ok (134, h) w := by kernel_rfl
theorem as_kindP (w : World) : ((ReflectliteType.abiMethod fun t => (fun a : Nat => Value.int IntKind.u8 (a : Int)) <$> Rtype.kind t) #[.pointer (some ⟨1, 119, none⟩)]).run Tryz.prog w = .ok (.int .u8 22) w := by kernel_rfl
theorem as_kindV (w : World) : ((ReflectliteType.abiMethod fun t => (fun a : Nat => Value.int IntKind.u8 (a : Int)) <$> Rtype.kind t) #[.pointer (some ⟨1, 114, none⟩)]).run Tryz.prog w = .ok (.int .u8 25) w := by kernel_rfl
theorem as_rlm (z : Sem Value) (f : TypeId → Addr → Nat → Nat → Sem Value) (v : Value) :
    ReflectliteValue.method z f #[v] = (do match ← ReflectliteValue.parts v with | none => z | some (t, a, fl) => f t a fl (fl % 32)) := rfl
theorem as_partsP (a : Addr) (w : World) : (ReflectliteValue.parts (.agg #[.pointer (some ⟨1, 119, none⟩), .pointer (some a), .int .u64 150])).run Tryz.prog w = .ok (some (119, a, 150)) w := by kernel_rfl
theorem as_isNilP (a p : Addr) (W : World) (ha : W.cell? a = some (.pointer (some p))) :
    (ReflectliteValue.method (ReflectliteValue.valueError "reflectlite.Value.IsNil" 0) ReflectliteValue.isNil #[.agg #[.pointer (some ⟨1, 119, none⟩), .pointer (some a), .int .u64 150]]).run Tryz.prog W = .ok (.bool false) W := by
  rw [as_rlm]
  simp only [Sem.run_bind, as_partsP, Result.andThen]
  simp [ReflectliteValue.isNil, loadVar, isAgg, underlying, Tryz.underlying119, ha, Result.andThen]
theorem as_mElem (n : Nat) (h : Value) (w : World) : (Go.method (n + 1) 142 (.agg #[h]) "Elem").run Tryz.prog w = .ok (145, .agg #[h]) w := by kernel_rfl
theorem as_mImpl (n : Nat) (h : Value) (w : World) : (Go.method (n + 1) 142 (.agg #[h]) "Implements").run Tryz.prog w = .ok (146, .agg #[h]) w := by kernel_rfl
theorem as_mAsg (n : Nat) (h : Value) (w : World) : (Go.method (n + 1) 142 (.agg #[h]) "AssignableTo").run Tryz.prog w = .ok (143, .agg #[h]) w := by kernel_rfl
theorem as_elemP (w : World) : (ReflectliteType.method ReflectliteType.elem #[.agg #[.pointer (some ⟨1, 119, none⟩)]]).run Tryz.prog w = .ok (.iface 142 (.agg #[.pointer (some ⟨1, 114, none⟩)])) w := by kernel_rfl
theorem as_implV (w : World) : (ReflectliteType.relation "Implements" ReflectliteType.implements_ #[.agg #[.pointer (some ⟨1, 114, none⟩)], .iface 142 (.agg #[.pointer (some ⟨1, 117, none⟩)])]).run Tryz.prog w = .ok (.bool true) w := by kernel_rfl
theorem as_typeOfV (v : Value) (w : World) : (ReflectliteType.typeOf #[.iface 114 v]).run Tryz.prog w = .ok (.iface 142 (.agg #[.pointer (some ⟨1, 114, none⟩)])) w := by kernel_rfl
theorem as_asgV (w : World) : (ReflectliteType.relation "AssignableTo" ReflectliteType.assignableTo #[.agg #[.pointer (some ⟨1, 114, none⟩)], .iface 142 (.agg #[.pointer (some ⟨1, 114, none⟩)])]).run Tryz.prog w = .ok (.bool true) w := by kernel_rfl
theorem as_valueOfV (k : Int) (w : World) : (ReflectliteValue.unpack (.iface 114 (.agg #[.int .i64 k]))).run Tryz.prog w
    = .ok (.agg #[.pointer (some ⟨1, 114, none⟩), .pointer (some ⟨w.heap.size, 0, none⟩), .int .u64 153]) (w.alloc (.cells #[.int .i64 k] 114)) := by kernel_rfl
theorem as_elemOfP (w : World) : (Rtype.elem? 119).run Tryz.prog w = .ok (some 114) w := by kernel_rfl
theorem as_mkV (p : Addr) (w : World) : (ReflectliteValue.mk 114 p ReflectliteValue.flagAddr).run Tryz.prog w = .ok (.agg #[.pointer (some ⟨1, 114, none⟩), .pointer (some p), .int .u64 409]) w := by kernel_rfl
theorem as_elemVP (a p : Addr) (W : World) (ha : W.cell? a = some (.pointer (some p))) :
    (ReflectliteValue.method (ReflectliteValue.valueError "reflectlite.Value.Elem" 0) ReflectliteValue.elem #[.agg #[.pointer (some ⟨1, 119, none⟩), .pointer (some a), .int .u64 150]]).run Tryz.prog W
      = .ok (.agg #[.pointer (some ⟨1, 114, none⟩), .pointer (some p), .int .u64 409]) W := by
  rw [as_rlm]
  simp only [Sem.run_bind, as_partsP, Result.andThen]
  simp [ReflectliteValue.elem, loadVar, isAgg, underlying, Tryz.underlying119, ha, Result.andThen, as_elemOfP, as_mkV]
theorem as_rls (v x : Value) : ReflectliteValue.set #[v, x] = (do
    let (some (dst, a, fl), some (src, b, _)) := (← ReflectliteValue.parts v, ← ReflectliteValue.parts x)
      | unsupported (.noEntry "extern/(internal/reflectlite.Value).Set.zeroValue")
    if fl / ReflectliteValue.flagAddr % 2 == 0 then unsupported (.noEntry "extern/(internal/reflectlite.Value).Set.unaddressable")
    let val ← loadVar src b
    if ← Rtype.directlyAssignable dst src then storeVar dst a val
    else if ← Rtype.implements dst src then
      if (← Rtype.kind src) == 20 then
        match val with
        | .nilIface => unsupported (.noEntry "extern/reflectlite: a nil value of one interface type handed on as a value of another")
        | _ => storeVar dst a val
      else storeVar dst a (.iface src val)
    else panicString ("reflectlite.Set: value of type " ++ (← Rtype.spelt src) ++ " is not assignable to type " ++ (← Rtype.spelt dst))
    pure (.tuple #[])) := rfl
theorem as_partsVa (a : Addr) (w : World) : (ReflectliteValue.parts (.agg #[.pointer (some ⟨1, 114, none⟩), .pointer (some a), .int .u64 409])).run Tryz.prog w = .ok (some (114, a, 409)) w := by kernel_rfl
theorem as_partsV (a : Addr) (w : World) : (ReflectliteValue.parts (.agg #[.pointer (some ⟨1, 114, none⟩), .pointer (some a), .int .u64 153])).run Tryz.prog w = .ok (some (114, a, 153)) w := by kernel_rfl
theorem as_directV (w : World) : (Rtype.directlyAssignable 114 114).run Tryz.prog w = .ok true w := by kernel_rfl
theorem as_loadV (b : Addr) (k : Int) (W : World) (hb : W.cell? b = some (.int .i64 k)) : (loadVar 114 b).run Tryz.prog W = .ok (.agg #[.int .i64 k]) W := by
  have hs : (sizeOf 114).run Tryz.prog W = .ok 1 W := by kernel_rfl
  have hl : (loadCells b 1).run Tryz.prog W = .ok #[.int .i64 k] W := run_loadCells_list W b [.int .i64 k] (fun j v hj => by
    match j, hj with
    | 0, hj =>
      obtain rfl : v = .int .i64 k := (Option.some.inj hj).symm
      simpa [Addr.add] using hb)
  simp [loadVar, isAgg, underlying, Tryz.underlying114, hs, hl, Result.andThen]
theorem as_setV (ta b : Addr) (k : Int) (old : Value) (W : World) (hb : W.cell? b = some (.int .i64 k)) (ht : W.cell? ta = some old) (hf : W.frozen? ta = false) :
    (ReflectliteValue.set #[.agg #[.pointer (some ⟨1, 114, none⟩), .pointer (some ta), .int .u64 409], .agg #[.pointer (some ⟨1, 114, none⟩), .pointer (some b), .int .u64 153]]).run Tryz.prog W
      = .ok (.tuple #[]) (W.setCell ta (.int .i64 k)) := by
  rw [as_rls]
  simp only [Sem.run_bind, as_partsVa, as_partsV, Result.andThen]
  simp [ReflectliteValue.flagAddr, as_loadV b k W hb, Result.andThen, as_directV, storeVar, Value.cells, storeCells, Addr.add]
  rw [run_store Tryz.prog W ta _ _ (by rfl)]
  simp [ht, hf]

set_option maxRecDepth 100000 in
set_option maxHeartbeats 4000000 in
/-- errors.As at a violation: true; the variable takes it. -/
theorem as_hit (k : Int) (t : Addr) (old : Value) (w : World) (hg : w.cell? ⟨0, 0, none⟩ = some (.iface 142 (.agg #[.pointer (some ⟨1, 117, none⟩)]))) (ht0 : w.cell? t = some old) (hf0 : w.frozen? t = false) :
    Calls Tryz.prog 81 #[.iface 114 (.agg #[.int .i64 k]), .iface 119 (.pointer (some t))] w fun ev w' => ev = .returned (.bool true) ∧ w' = ((((w.alloc (.cells #[.pointer (some t)] 119)).alloc (.cells #[.pointer (some ⟨1, 119, none⟩), .pointer (some ⟨w.heap.size, 0, none⟩), .int .u64 150] 129)).alloc (.cells #[.pointer (some ⟨1, 119, none⟩), .pointer (some ⟨w.heap.size, 0, none⟩), .int .u64 150] 129)).alloc (.cells #[.int .i64 k] 114)).setCell t (.int .i64 k) := by
  have ha := @run_callFunc_extern Tryz.prog 95 _ (fun args => ReflectliteValue.unpack (args.getD 0 (.tuple #[]))) Tryz.func95 (by kernel_rfl) (by kernel_rfl) (by kernel_rfl) (by kernel_rfl)
  have hb := @run_callFunc_extern Tryz.prog 96 _ (ReflectliteValue.methodAny (ReflectliteValue.valueError "reflectlite.Value.Type" 0) (fun t _ _ _ => ReflectliteType.toType t)) Tryz.func96 (by kernel_rfl) (by kernel_rfl) (by kernel_rfl) (by kernel_rfl)
  have hc := @run_callFunc_extern Tryz.prog 97 _ (ReflectliteValue.method (ReflectliteValue.valueError "reflectlite.Value.IsNil" 0) ReflectliteValue.isNil) Tryz.func97 (by kernel_rfl) (by kernel_rfl) (by kernel_rfl) (by kernel_rfl)
  have hd := @run_callFunc_extern Tryz.prog 134 _ (ReflectliteType.abiMethod fun t => do pure (.int .u8 (← Rtype.kind t))) Tryz.func134 (by kernel_rfl) (by kernel_rfl) (by kernel_rfl) (by kernel_rfl)
  have he := @run_callFunc_extern Tryz.prog 145 _ (ReflectliteType.method ReflectliteType.elem) Tryz.func145 (by kernel_rfl) (by kernel_rfl) (by kernel_rfl) (by kernel_rfl)
  have hf := @run_callFunc_extern Tryz.prog 146 _ (ReflectliteType.relation "Implements" ReflectliteType.implements_) Tryz.func146 (by kernel_rfl) (by kernel_rfl) (by kernel_rfl) (by kernel_rfl)
  have hi := @run_callFunc_extern Tryz.prog 105 _ (ReflectliteType.typeOf) Tryz.func105 (by kernel_rfl) (by kernel_rfl) (by kernel_rfl) (by kernel_rfl)
  have hj := @run_callFunc_extern Tryz.prog 143 _ (ReflectliteType.relation "AssignableTo" ReflectliteType.assignableTo) Tryz.func143 (by kernel_rfl) (by kernel_rfl) (by kernel_rfl) (by kernel_rfl)
  have hk := @run_callFunc_extern Tryz.prog 106 _ (ReflectliteValue.method (ReflectliteValue.valueError "reflectlite.Value.Elem" 0) ReflectliteValue.elem) Tryz.func106 (by kernel_rfl) (by kernel_rfl) (by kernel_rfl) (by kernel_rfl)
  have hl := @run_callFunc_extern Tryz.prog 107 _ (ReflectliteValue.set) Tryz.func107 (by kernel_rfl) (by kernel_rfl) (by kernel_rfl) (by kernel_rfl)
  have q1 := as_typeOfV
  have q2 := as_mAsg
  have q3 := as_asgV
  have q4 := as_valueOfV
  have q5 := as_valueOfP
  have q6 := as_typeP
  have q7 := as_mKind
  have q8 := as_mElem
  have q9 := as_mImpl
  have p1 := as_kindP
  have p2 := as_kindV
  have p3 := as_elemP
  have p4 := as_implV
  have n8 := as_isNilP ⟨w.heap.size, 0, none⟩ t ((w.alloc (.cells #[.pointer (some t)] 119)).alloc (.cells #[.pointer (some ⟨1, 119, none⟩), .pointer (some ⟨w.heap.size, 0, none⟩), .int .u64 150] 129)) (by simp)
  have hlt := World.block_lt_of_cell? _ _ hg
  simp only at hlt
  have hg2 : ((w.alloc (.cells #[.pointer (some t)] 119)).alloc (.cells #[.pointer (some ⟨1, 119, none⟩), .pointer (some ⟨w.heap.size, 0, none⟩), .int .u64 150] 129)).cell? ⟨0, 0, none⟩ = some (.iface 142 (.agg #[.pointer (some ⟨1, 117, none⟩)])) := by
    rw [World.cell?_alloc_lt _ _ ⟨0, 0, none⟩ (by simp only [World.size_alloc]; omega), World.cell?_alloc_lt _ _ ⟨0, 0, none⟩ hlt]; exact hg
  have htl := World.block_lt_of_cell? _ _ ht0
  have el := as_elemVP ⟨w.heap.size, 0, none⟩ t (((w.alloc (.cells #[.pointer (some t)] 119)).alloc (.cells #[.pointer (some ⟨1, 119, none⟩), .pointer (some ⟨w.heap.size, 0, none⟩), .int .u64 150] 129)).alloc (.cells #[.pointer (some ⟨1, 119, none⟩), .pointer (some ⟨w.heap.size, 0, none⟩), .int .u64 150] 129)) (by rw [World.cell?_alloc_lt _ _ ⟨w.heap.size, 0, none⟩ (by simp; omega)]; simp)
  have st := as_setV t ⟨w.heap.size + 1 + 1 + 1, 0, none⟩ k old ((((w.alloc (.cells #[.pointer (some t)] 119)).alloc (.cells #[.pointer (some ⟨1, 119, none⟩), .pointer (some ⟨w.heap.size, 0, none⟩), .int .u64 150] 129)).alloc (.cells #[.pointer (some ⟨1, 119, none⟩), .pointer (some ⟨w.heap.size, 0, none⟩), .int .u64 150] 129)).alloc (.cells #[.int .i64 k] 114))
    (by rw [World.cell?_alloc_at _ _ _ _ (by simp)]; rfl)
    (by rw [World.cell?_alloc_lt _ _ t (by simp; omega), World.cell?_alloc_lt _ _ t (by simp; omega), World.cell?_alloc_lt _ _ t (by simp; omega), World.cell?_alloc_lt _ _ t htl]; exact ht0)
    (by rw [World.frozen?_alloc_old _ _ t (by simp; omega), World.frozen?_alloc_old _ _ t (by simp; omega), World.frozen?_alloc_old _ _ t (by simp; omega), World.frozen?_alloc_old _ _ t (Nat.ne_of_lt htl)]; exact hf0)
  go_enter Tryz.func81, Tryz.ntmps81
  go_wp2
  refine wp_loop_rounds 1 ?_
  rw [rounds_succ]
  go_wp2
  go_ret
  exact ⟨rfl, rfl⟩
end Go.Proofs.YtdhdkhnefnbdgaaGreatDoor
namespace Go.Proofs.YtdhdkhnefnbdgaaGreatDoor
open Go.ChangeShapes Go.WideShapes Go.ChangeAt Go.RowKit
set_option linter.unusedVariables false
/-- The first of n numbers that meets p, else -1. -/
def fiN (p : Nat → Bool) (n : Nat) : Nat → Int
  | 0 => -1
  | m + 1 => if p (n - (m + 1)) = true then ((n - (m + 1) : Nat) : Int) else fiN p n m
theorem fiN_stop {p : Nat → Bool} {n k : Nat} (hk : k < n) (h : p k = true) : fiN p n (n - k) = (k : Int) := by
  obtain ⟨m, hm⟩ : ∃ m, n - k = m + 1 := ⟨n - k - 1, by omega⟩
  rw [hm, fiN, show n - (m + 1) = k by omega, if_pos h]
theorem fiN_go {p : Nat → Bool} {n k : Nat} (hk : k < n) (h : p k = false) : fiN p n (n - k) = fiN p n (n - (k + 1)) := by
  obtain ⟨m, hm⟩ : ∃ m, n - k = m + 1 := ⟨n - k - 1, by omega⟩
  rw [hm, fiN, show n - (m + 1) = k by omega, if_neg (by rw [h]; decide), show n - (k + 1) = m by omega]
theorem fiN_ge (p : Nat → Bool) (n : Nat) : ∀ m, -1 ≤ fiN p n m
  | 0 => by simp [fiN]
  | m + 1 => by
    rw [fiN]
    split
    · omega
    · exact fiN_ge p n m
/-- Hop k does not verify. -/
def badH (zA : List TAS) (n0 : Nat) (t b : Int) (hs : List THop) (k : Nat) : Bool := !vAt zA n0 t b hs k
def fiV (zA : List TAS) (n0 : Nat) (t b : Int) (hs : List THop) (n : Nat) : Int := fiN (badH zA n0 t b hs) n n
def errOf (v : Int) : Value := if v < 0 then .nilIface else .iface 114 (.agg #[.int .i64 v])
set_option maxRecDepth 100000 in
set_option maxHeartbeats 4000000 in
theorem implCheck (a0 a1 : Option Addr) (n0 c0 n1 c1 B : Nat) (zA : List TAS) (x0 x1 : Int) (a : Option Addr) (n c B' : Nat) (hs : List THop) (w : World) (hA : HasAS w B a0 n0 zA) (hB : B ≤ w.heap.size) (hn0 : n0 ≤ 1048576) (h : HasHop w B' a n hs) (hB' : B' ≤ w.heap.size) (hn : n ≤ 1048576) (hz : ∀ y ∈ zA, TAS.fits y) (ht : (Lit.int .i64 x0).wf = true) (hb : (Lit.int .i64 x1).wf = true) (hf : ∀ y ∈ hs, THop.fits y) :
    Calls Tryz.prog 82 #[.agg #[.slice a0 n0 c0, .slice a1 n1 c1], .agg #[.int .i64 x0, .int .i64 x1, .slice a n c]] w fun e w' => e = .returned (errOf (fiV zA n0 x0 x1 hs n)) ∧ Mk0 w w' := by
  have M0 := (Mk.alloc w (Obj.cells #[Value.slice a0 n0 c0, Value.slice a1 n1 c1] 35)).new (Obj.cells #[Value.int .i64 x0, Value.int .i64 x1, Value.slice a n c] 39)
  have k0 : ((w.alloc (Obj.cells #[Value.slice a0 n0 c0, Value.slice a1 n1 c1] 35)).alloc (Obj.cells #[Value.int .i64 x0, Value.int .i64 x1, Value.slice a n c] 39)).cell? ⟨w.heap.size, 0, none⟩ = some (.slice a0 n0 c0) := by simp [go_sem]
  have k1 : ((w.alloc (Obj.cells #[Value.slice a0 n0 c0, Value.slice a1 n1 c1] 35)).alloc (Obj.cells #[Value.int .i64 x0, Value.int .i64 x1, Value.slice a n c] 39)).cell? ⟨w.heap.size, 1, none⟩ = some (.slice a1 n1 c1) := by simp [go_sem]
  have j0 : ((w.alloc (Obj.cells #[Value.slice a0 n0 c0, Value.slice a1 n1 c1] 35)).alloc (Obj.cells #[Value.int .i64 x0, Value.int .i64 x1, Value.slice a n c] 39)).cell? ⟨w.heap.size + 1, 0, none⟩ = some (.int .i64 x0) := by simp [go_sem]
  have j1 : ((w.alloc (Obj.cells #[Value.slice a0 n0 c0, Value.slice a1 n1 c1] 35)).alloc (Obj.cells #[Value.int .i64 x0, Value.int .i64 x1, Value.slice a n c] 39)).cell? ⟨w.heap.size + 1, 1, none⟩ = some (.int .i64 x1) := by simp [go_sem]
  have j2 : ((w.alloc (Obj.cells #[Value.slice a0 n0 c0, Value.slice a1 n1 c1] 35)).alloc (Obj.cells #[Value.int .i64 x0, Value.int .i64 x1, Value.slice a n c] 39)).cell? ⟨w.heap.size + 1, 2, none⟩ = some (.slice a n c) := by simp [go_sem]
  go_enter Tryz.func82, Tryz.ntmps82
  go_wp2_with fail
  refine (implVHops a0 a1 n0 c0 n1 c1 B zA x0 x1 a n c B' hs _ (hA.mk M0 hB (.inr (Nat.le_refl _))) (Nat.le_trans hB M0.size) hn0 (h.mk M0 hB' (.inr (Nat.le_refl _))) (Nat.le_trans hB' M0.size) hn hz ht hb hf).mono ?_
  rintro e w2 ⟨g, rfl, hc, m2⟩
  have M2 := M0.trans m2
  have HC := Lib.hid hc
  clear hc hz ht hb hf
  go_wp2_with fail
  go_loopw [4, 11] (fun rr i wr => rr = .nilIface ∧ ∃ k : Nat, k ≤ n ∧ i = .int .i64 k ∧ Hid (fiV zA n0 x0 x1 hs n = fiN (badH zA n0 x0 x1 hs) n (n - k)) ∧ Mk0 w2 wr) (fun _ i _ => n - (intOf i).toNat)
  case atStart => exact ⟨rfl, 0, Nat.zero_le _, rfl, rfl, Mk.refl _ _ _⟩
  case round =>
    obtain ⟨rfl, k, hk, rfl, hS, hM⟩ := hrel
    have hM' := M2.trans hM
    by_cases hlt : k < n
    · have cv := hM.cellAt (HC.out k hlt)
      have i1 : (0 : Int) ≤ (k : Int) := by omega
      have i2 : (k : Int) < (n : Int) := by omega
      obtain ⟨V, hV⟩ : ∃ V, Hid (V = vAt zA n0 x0 x1 hs k) := ⟨_, Lib.hid rfl⟩
      rw [← hV.out] at cv
      cases hv : V
      · rw [hv] at cv hV
        have HV2 := Lib.hid hV.out.symm
        have HE := Lib.hid (show fiV zA n0 x0 x1 hs n = (k : Int) by rw [hS.out]; exact fiN_stop hlt (by unfold badH; rw [HV2.out]; rfl))
        clear hv hV
        go_wp2_with fail
        go_ret
        exact ⟨congrArg _ (by rw [HE.out]; unfold errOf; rw [if_neg (by omega)]; rfl), hM'⟩
      · rw [hv] at cv hV
        have HV2 := Lib.hid hV.out.symm
        have HE := Lib.hid (show fiV zA n0 x0 x1 hs n = fiN (badH zA n0 x0 x1 hs) n (n - (k + 1)) by rw [hS.out]; exact fiN_go hlt (by unfold badH; rw [HV2.out]; rfl))
        clear hv hV
        go_wp2_with fail
        go_roundw
        case rel => exact ⟨rfl, k + 1, by omega, by go_num, HE.out, hM⟩
        case measure => simp [intOf]; omega
    · obtain rfl : k = n := by omega
      go_wp2_with fail
      go_ret
      exact ⟨congrArg _ (by rw [hS.out, Nat.sub_self]; rfl), hM'⟩

set_option maxRecDepth 100000 in
set_option maxHeartbeats 4000000 in
theorem implFInv (a0 a1 : Option Addr) (n0 c0 n1 c1 B : Nat) (zA : List TAS) (x0 x1 : Int) (a : Option Addr) (n c B' : Nat) (hs : List THop) (w : World) (hA : HasAS w B a0 n0 zA) (hB : B ≤ w.heap.size) (hn0 : n0 ≤ 1048576) (h : HasHop w B' a n hs) (hB' : B' ≤ w.heap.size) (hn : n ≤ 1048576) (hz : ∀ y ∈ zA, TAS.fits y) (ht : (Lit.int .i64 x0).wf = true) (hb : (Lit.int .i64 x1).wf = true) (hf : ∀ y ∈ hs, THop.fits y) (hg : w.cell? ⟨0, 0, none⟩ = some (.iface 142 (.agg #[.pointer (some ⟨1, 117, none⟩)]))) :
    Calls Tryz.prog 57 #[.agg #[.slice a0 n0 c0, .slice a1 n1 c1], .agg #[.int .i64 x0, .int .i64 x1, .slice a n c]] w fun e w' => e = .returned (.int .i64 (fiV zA n0 x0 x1 hs n)) ∧ Mk0 w w' := by
  have M0 := ((Mk.alloc w (Obj.cells #[Value.slice a0 n0 c0, Value.slice a1 n1 c1] 35)).new (Obj.cells #[Value.int .i64 x0, Value.int .i64 x1, Value.slice a n c] 39)).new (Obj.cells #[Value.int .i64 0] 114)
  have k0 : (((w.alloc (Obj.cells #[Value.slice a0 n0 c0, Value.slice a1 n1 c1] 35)).alloc (Obj.cells #[Value.int .i64 x0, Value.int .i64 x1, Value.slice a n c] 39)).alloc (Obj.cells #[Value.int .i64 0] 114)).cell? ⟨w.heap.size, 0, none⟩ = some (.slice a0 n0 c0) := by simp [go_sem]
  have k1 : (((w.alloc (Obj.cells #[Value.slice a0 n0 c0, Value.slice a1 n1 c1] 35)).alloc (Obj.cells #[Value.int .i64 x0, Value.int .i64 x1, Value.slice a n c] 39)).alloc (Obj.cells #[Value.int .i64 0] 114)).cell? ⟨w.heap.size, 1, none⟩ = some (.slice a1 n1 c1) := by simp [go_sem]
  have j0 : (((w.alloc (Obj.cells #[Value.slice a0 n0 c0, Value.slice a1 n1 c1] 35)).alloc (Obj.cells #[Value.int .i64 x0, Value.int .i64 x1, Value.slice a n c] 39)).alloc (Obj.cells #[Value.int .i64 0] 114)).cell? ⟨w.heap.size + 1, 0, none⟩ = some (.int .i64 x0) := by simp [go_sem]
  have j1 : (((w.alloc (Obj.cells #[Value.slice a0 n0 c0, Value.slice a1 n1 c1] 35)).alloc (Obj.cells #[Value.int .i64 x0, Value.int .i64 x1, Value.slice a n c] 39)).alloc (Obj.cells #[Value.int .i64 0] 114)).cell? ⟨w.heap.size + 1, 1, none⟩ = some (.int .i64 x1) := by simp [go_sem]
  have j2 : (((w.alloc (Obj.cells #[Value.slice a0 n0 c0, Value.slice a1 n1 c1] 35)).alloc (Obj.cells #[Value.int .i64 x0, Value.int .i64 x1, Value.slice a n c] 39)).alloc (Obj.cells #[Value.int .i64 0] 114)).cell? ⟨w.heap.size + 1, 2, none⟩ = some (.slice a n c) := by simp [go_sem]
  have v0 : (((w.alloc (Obj.cells #[Value.slice a0 n0 c0, Value.slice a1 n1 c1] 35)).alloc (Obj.cells #[Value.int .i64 x0, Value.int .i64 x1, Value.slice a n c] 39)).alloc (Obj.cells #[Value.int .i64 0] 114)).cell? ⟨w.heap.size + 1 + 1, 0, none⟩ = some (.int .i64 0) := by simp [go_sem]
  have fv : (((w.alloc (Obj.cells #[Value.slice a0 n0 c0, Value.slice a1 n1 c1] 35)).alloc (Obj.cells #[Value.int .i64 x0, Value.int .i64 x1, Value.slice a n c] 39)).alloc (Obj.cells #[Value.int .i64 0] 114)).frozen? ⟨w.heap.size + 1 + 1, 0, none⟩ = false := by simp [go_sem]
  have hs3 : (((w.alloc (Obj.cells #[Value.slice a0 n0 c0, Value.slice a1 n1 c1] 35)).alloc (Obj.cells #[Value.int .i64 x0, Value.int .i64 x1, Value.slice a n c] 39)).alloc (Obj.cells #[Value.int .i64 0] 114)).heap.size = w.heap.size + 1 + 1 + 1 := by rw [World.size_alloc, World.size_alloc, World.size_alloc]
  replace hg := M0.cellAt hg
  go_enter Tryz.func57, Tryz.ntmps57
  go_wp2_with fail
  generalize (((w.alloc (Obj.cells #[Value.slice a0 n0 c0, Value.slice a1 n1 c1] 35)).alloc (Obj.cells #[Value.int .i64 x0, Value.int .i64 x1, Value.slice a n c] 39)).alloc (Obj.cells #[Value.int .i64 0] 114)) = WW at *
  refine (implCheck a0 a1 n0 c0 n1 c1 B zA x0 x1 a n c B' hs _ (hA.mk M0 hB (.inr (Nat.le_refl _))) (Nat.le_trans hB M0.size) hn0 (h.mk M0 hB' (.inr (Nat.le_refl _))) (Nat.le_trans hB' M0.size) hn hz ht hb hf).mono ?_
  rintro e w2 ⟨he, m2⟩
  have hfr := m2.frozen (b := w.heap.size + 1 + 1) (o := 0) (by omega) (.inr (Nat.zero_le _))
  rw [fv] at hfr
  replace hg := m2.cellAt hg
  replace v0 := m2.cellAt v0
  have M2 := M0.trans m2
  have hsz := m2.size
  obtain ⟨V, hV⟩ : ∃ V, Hid (V = fiV zA n0 x0 x1 hs n) := ⟨_, Lib.hid rfl⟩
  rw [← hV.out] at he
  have hge : -1 ≤ V := by rw [hV.out]; exact fiN_ge _ _ _
  by_cases hneg : V < 0
  · have hV1 : V = -1 := by omega
    have HR := Lib.hid (hV.out.symm.trans hV1)
    rw [show errOf V = .nilIface from if_pos hneg] at he
    subst he
    clear hV1 hneg hge hz hf
    go_wp2_with fail
    refine (as_nil _ _).mono ?_
    rintro e w3 ⟨rfl, rfl⟩
    go_wp2_with fail
    go_ret
    exact ⟨retI HR.out.symm, M2⟩
  · rw [show errOf V = .iface 114 (.agg #[.int .i64 V]) from if_neg hneg] at he
    subst he
    have HR := Lib.hid hV.out
    clear hge hneg hz hf
    go_wp2_with fail
    refine (as_hit V ⟨w.heap.size + 1 + 1, 0, none⟩ (.int .i64 0) w2 hg v0 hfr).mono ?_
    rintro e w3 ⟨rfl, hw3⟩
    have MM := ((((M2.new (.cells #[.pointer (some ⟨w.heap.size + 1 + 1, 0, none⟩)] 119)).new (.cells #[.pointer (some ⟨1, 119, none⟩), .pointer (some ⟨w2.heap.size, 0, none⟩), .int .u64 150] 129)).new (.cells #[.pointer (some ⟨1, 119, none⟩), .pointer (some ⟨w2.heap.size, 0, none⟩), .int .u64 150] 129)).new (.cells #[.int .i64 V] 114)).put ⟨w.heap.size + 1 + 1, 0, none⟩ (.int .i64 V) (by show w.heap.size ≤ w.heap.size + 1 + 1; omega)
    rw [← hw3] at MM
    have v3 : w3.cell? ⟨w.heap.size + 1 + 1, 0, none⟩ = some (.int .i64 V) := by
      rw [hw3]
      refine World.cell?_setCell_same _ _ (.int .i64 V) (?_ : _ = some (.int .i64 0))
      rw [World.cell?_alloc_lt _ _ _ (by simp only [World.size_alloc]; omega), World.cell?_alloc_lt _ _ _ (by simp only [World.size_alloc]; omega), World.cell?_alloc_lt _ _ _ (by simp only [World.size_alloc]; omega), World.cell?_alloc_lt _ _ _ (by show w.heap.size + 1 + 1 < w2.heap.size; omega)]
      exact v0
    clear hw3
    go_wp2_with fail
    go_ret
    exact ⟨retI HR.out, MM⟩

set_option maxRecDepth 100000 in
set_option maxHeartbeats 4000000 in
theorem specFInv (a0 a1 : Option Addr) (n0 c0 n1 c1 B : Nat) (zA : List TAS) (x0 x1 : Int) (a : Option Addr) (n c B' : Nat) (hs : List THop) (w : World) (hA : HasAS w B a0 n0 zA) (hB : B ≤ w.heap.size) (hn0 : n0 ≤ 1048576) (h : HasHop w B' a n hs) (hB' : B' ≤ w.heap.size) (hn : n ≤ 1048576) (hz : ∀ y ∈ zA, TAS.fits y) (ht : (Lit.int .i64 x0).wf = true) (hb : (Lit.int .i64 x1).wf = true) (hf : ∀ y ∈ hs, THop.fits y) :
    Calls Tryz.prog 48 #[.agg #[.slice a0 n0 c0, .slice a1 n1 c1], .agg #[.int .i64 x0, .int .i64 x1, .slice a n c]] w fun e w' => e = .returned (.int .i64 (fiV zA n0 x0 x1 hs n)) ∧ Mk0 w w' := by
  have M0 := (Mk.alloc w (Obj.cells #[Value.slice a0 n0 c0, Value.slice a1 n1 c1] 35)).new (Obj.cells #[Value.int .i64 x0, Value.int .i64 x1, Value.slice a n c] 39)
  have k0 : ((w.alloc (Obj.cells #[Value.slice a0 n0 c0, Value.slice a1 n1 c1] 35)).alloc (Obj.cells #[Value.int .i64 x0, Value.int .i64 x1, Value.slice a n c] 39)).cell? ⟨w.heap.size, 0, none⟩ = some (.slice a0 n0 c0) := by simp [go_sem]
  have k1 : ((w.alloc (Obj.cells #[Value.slice a0 n0 c0, Value.slice a1 n1 c1] 35)).alloc (Obj.cells #[Value.int .i64 x0, Value.int .i64 x1, Value.slice a n c] 39)).cell? ⟨w.heap.size, 1, none⟩ = some (.slice a1 n1 c1) := by simp [go_sem]
  have j0 : ((w.alloc (Obj.cells #[Value.slice a0 n0 c0, Value.slice a1 n1 c1] 35)).alloc (Obj.cells #[Value.int .i64 x0, Value.int .i64 x1, Value.slice a n c] 39)).cell? ⟨w.heap.size + 1, 0, none⟩ = some (.int .i64 x0) := by simp [go_sem]
  have j1 : ((w.alloc (Obj.cells #[Value.slice a0 n0 c0, Value.slice a1 n1 c1] 35)).alloc (Obj.cells #[Value.int .i64 x0, Value.int .i64 x1, Value.slice a n c] 39)).cell? ⟨w.heap.size + 1, 1, none⟩ = some (.int .i64 x1) := by simp [go_sem]
  have j2 : ((w.alloc (Obj.cells #[Value.slice a0 n0 c0, Value.slice a1 n1 c1] 35)).alloc (Obj.cells #[Value.int .i64 x0, Value.int .i64 x1, Value.slice a n c] 39)).cell? ⟨w.heap.size + 1, 2, none⟩ = some (.slice a n c) := by simp [go_sem]
  have HZ := Lib.hid hz
  have HFF := Lib.hid hf
  have HBF := Lib.hid (bUp_fits hb hs)
  have HTF := Lib.hid ht
  clear hz hf hb ht
  go_enter Tryz.func48, Tryz.ntmps48
  go_wp2_with fail
  go_loopw [4, 5] (fun rr i wr => rr = .int .i64 0 ∧ ∃ k : Nat, k ≤ n ∧ i = .int .i64 k ∧ Hid (fiV zA n0 x0 x1 hs n = fiN (badH zA n0 x0 x1 hs) n (n - k)) ∧ Mk0 ((w.alloc (Obj.cells #[Value.slice a0 n0 c0, Value.slice a1 n1 c1] 35)).alloc (Obj.cells #[Value.int .i64 x0, Value.int .i64 x1, Value.slice a n c] 39)) wr) (fun _ i _ => n - (intOf i).toNat)
  case atStart => exact ⟨rfl, 0, Nat.zero_le _, rfl, rfl, Mk.refl _ _ _⟩
  case round =>
    obtain ⟨rfl, k, hk, rfl, hS, hM⟩ := hrel
    replace k0 := hM.cellAt k0
    replace k1 := hM.cellAt k1
    replace j0 := hM.cellAt j0
    replace j1 := hM.cellAt j1
    replace j2 := hM.cellAt j2
    have hM' := M0.trans hM
    by_cases hlt : k < n
    · obtain ⟨b, off, x, eb, hb2, hx, d0, d1, d2, d3, d4⟩ := HasHop.at _ _ _ _ _ _ (h.mk hM' hB' (.inr (Nat.le_refl _))) hlt
      subst eb
      have i1 : (0 : Int) ≤ (k : Int) := by omega
      have i2 : (k : Int) < (n : Int) := by omega
      have HXF := Lib.hid (hopL_fits HTF.out (HBF.out k) (hopfit h.1 hlt HFF.out hx.out))
      obtain ⟨V, hV⟩ : ∃ V, Hid (V = vAt zA n0 x0 x1 hs k) := ⟨_, Lib.hid rfl⟩
      have HV := Lib.hid (show vhB zA n0 x0 (bUp x1 hs k) x.nd x.ing x.eg x.exp x.mac = V by rw [hV.out]; unfold vAt; rw [← hx.out])
      obtain ⟨β, hβ⟩ : ∃ β, Hid (β = bUp x1 hs k) := ⟨_, Lib.hid rfl⟩
      rw [← hβ.out] at HXF HV
      have HBE := Lib.hid ((betaV_bUp (b := x1) (hs := hs) (n := n) (q := k) hk).trans hβ.out.symm)
      cases hv : V
      · rw [hv] at HV hV
        have HV2 := Lib.hid hV.out.symm
        have HE := Lib.hid (show fiV zA n0 x0 x1 hs n = (k : Int) by rw [hS.out]; exact fiN_stop hlt (by unfold badH; rw [HV2.out]; rfl))
        clear hv hV
        go_wp2_with fail
        refine wp_region_wk (fun w' => Mk0 wr w' ∧ w'.cell? ⟨w.heap.size, 0, none⟩ = some (.slice a0 n0 c0) ∧ w'.cell? ⟨w.heap.size, 1, none⟩ = some (.slice a1 n1 c1) ∧ w'.cell? ⟨w.heap.size + 1, 0, none⟩ = some (.int .i64 x0) ∧ w'.cell? ⟨w.heap.size + 1, 1, none⟩ = some (.int .i64 x1) ∧ w'.cell? ⟨w.heap.size + 1, 2, none⟩ = some (.slice (some ⟨b, off, none⟩) n c) ∧ w'.cell? ⟨b, off + k * 5, none⟩ = some (.int .i64 x.nd) ∧ w'.cell? ⟨b, off + k * 5 + 1, none⟩ = some (.int .i64 x.ing) ∧ w'.cell? ⟨b, off + k * 5 + 2, none⟩ = some (.int .i64 x.eg) ∧ w'.cell? ⟨b, off + k * 5 + 3, none⟩ = some (.int .i64 x.exp) ∧ w'.cell? ⟨b, off + k * 5 + 4, none⟩ = some (.int .i64 x.mac)) (by kernel_rfl) (by kernel_rfl) (⟨Mk.drew1 _, k0, k1, j0, j1, j2, d0, d1, d2, d3, d4⟩) ?_
        change Wk _ _ _ _ 13 0 _
        first | (refine Wk.skip (m := 12) (k := 0) rfl (by rfl) ?_) | (refine Wk.step (m := 12) (k := 0) (v := _) rfl (by rfl) (fun wv hS => by obtain ⟨s0, s1, s2, s3, s4, s5, s6, s7, s8, s9, s10⟩ := hS; go_simp; try with_reducible rfl) ?_)
        try simp only [Act.put, List.getElem_toArray, List.getElem_cons_zero, List.setIfInBounds_toArray, List.set_cons_zero, List.set_cons_succ]
        first | (refine Wk.skip (m := 11) (k := 1) rfl (by rfl) ?_) | (refine Wk.step (m := 11) (k := 1) (v := _) rfl (by rfl) (fun wv hS => by obtain ⟨s0, s1, s2, s3, s4, s5, s6, s7, s8, s9, s10⟩ := hS; go_simp; try with_reducible rfl) ?_)
        try simp only [Act.put, List.getElem_toArray, List.getElem_cons_succ, List.getElem_cons_zero, List.setIfInBounds_toArray, List.set_cons_zero, List.set_cons_succ]
        first | (refine Wk.skip (m := 10) (k := 2) rfl (by rfl) ?_) | (refine Wk.step (m := 10) (k := 2) (v := _) rfl (by rfl) (fun wv hS => by obtain ⟨s0, s1, s2, s3, s4, s5, s6, s7, s8, s9, s10⟩ := hS; go_simp; try with_reducible rfl) ?_)
        try simp only [Act.put, List.getElem_toArray, List.getElem_cons_succ, List.getElem_cons_zero, List.setIfInBounds_toArray, List.set_cons_zero, List.set_cons_succ]
        first | (refine Wk.skip (m := 9) (k := 3) rfl (by rfl) ?_) | (refine Wk.step (m := 9) (k := 3) (v := _) rfl (by rfl) (fun wv hS => by obtain ⟨s0, s1, s2, s3, s4, s5, s6, s7, s8, s9, s10⟩ := hS; go_simp; try with_reducible rfl) ?_)
        try simp only [Act.put, List.getElem_toArray, List.getElem_cons_succ, List.getElem_cons_zero, List.setIfInBounds_toArray, List.set_cons_zero, List.set_cons_succ]
        first | (refine Wk.skip (m := 8) (k := 4) rfl (by rfl) ?_) | (refine Wk.step (m := 8) (k := 4) (v := _) rfl (by rfl) (fun wv hS => by obtain ⟨s0, s1, s2, s3, s4, s5, s6, s7, s8, s9, s10⟩ := hS; go_simp; try with_reducible rfl) ?_)
        try simp only [Act.put, List.getElem_toArray, List.getElem_cons_succ, List.getElem_cons_zero, List.setIfInBounds_toArray, List.set_cons_zero, List.set_cons_succ]
        refine Wk.call (m := 7) (k := 5) (v := .int .i64 β) _ _ rfl (by rfl) (fun wv hS => by obtain ⟨s0, s1, s2, s3, s4, s5, s6, s7, s8, s9, s10⟩ := hS; go_simp; first | done | exact ⟨rfl, rfl⟩ | with_reducible rfl) (fun wv hS => ?_) ?_; · obtain ⟨s0, s1, s2, s3, s4, s5, s6, s7, s8, s9, s10⟩ := hS; refine (specBetaAt x0 x1 _ n c B' hs (k : Int) wv (h.mk (hM'.trans s0) hB' (.inr (Nat.le_refl _))) (Nat.le_trans hB' (hM'.trans s0).size) hn).mono ?_; rintro e w' ⟨he, mm⟩; exact ⟨by rw [he, HBE.out], ⟨s0.trans mm, mm.cellAt s1, mm.cellAt s2, mm.cellAt s3, mm.cellAt s4, mm.cellAt s5, mm.cellAt s6, mm.cellAt s7, mm.cellAt s8, mm.cellAt s9, mm.cellAt s10⟩⟩
        try simp only [Act.put, List.getElem_toArray, List.getElem_cons_succ, List.getElem_cons_zero, List.setIfInBounds_toArray, List.set_cons_zero, List.set_cons_succ]
        first | (refine Wk.skip (m := 6) (k := 6) rfl (by rfl) ?_) | (refine Wk.step (m := 6) (k := 6) (v := _) rfl (by rfl) (fun wv hS => by obtain ⟨s0, s1, s2, s3, s4, s5, s6, s7, s8, s9, s10⟩ := hS; go_simp; try with_reducible rfl) ?_)
        try simp only [Act.put, List.getElem_toArray, List.getElem_cons_succ, List.getElem_cons_zero, List.setIfInBounds_toArray, List.set_cons_zero, List.set_cons_succ]
        first | (refine Wk.skip (m := 5) (k := 7) rfl (by rfl) ?_) | (refine Wk.step (m := 5) (k := 7) (v := _) rfl (by rfl) (fun wv hS => by obtain ⟨s0, s1, s2, s3, s4, s5, s6, s7, s8, s9, s10⟩ := hS; go_simp; try with_reducible rfl) ?_)
        try simp only [Act.put, List.getElem_toArray, List.getElem_cons_succ, List.getElem_cons_zero, List.setIfInBounds_toArray, List.set_cons_zero, List.set_cons_succ]
        first | (refine Wk.skip (m := 4) (k := 8) rfl (by rfl) ?_) | (refine Wk.step (m := 4) (k := 8) (v := _) rfl (by rfl) (fun wv hS => by obtain ⟨s0, s1, s2, s3, s4, s5, s6, s7, s8, s9, s10⟩ := hS; go_simp; try with_reducible rfl) ?_)
        try simp only [Act.put, List.getElem_toArray, List.getElem_cons_succ, List.getElem_cons_zero, List.setIfInBounds_toArray, List.set_cons_zero, List.set_cons_succ]
        first | (refine Wk.skip (m := 3) (k := 9) rfl (by rfl) ?_) | (refine Wk.step (m := 3) (k := 9) (v := _) rfl (by rfl) (fun wv hS => by obtain ⟨s0, s1, s2, s3, s4, s5, s6, s7, s8, s9, s10⟩ := hS; go_simp; try with_reducible rfl) ?_)
        try simp only [Act.put, List.getElem_toArray, List.getElem_cons_succ, List.getElem_cons_zero, List.setIfInBounds_toArray, List.set_cons_zero, List.set_cons_succ]
        first | (refine Wk.skip (m := 2) (k := 10) rfl (by rfl) ?_) | (refine Wk.step (m := 2) (k := 10) (v := _) rfl (by rfl) (fun wv hS => by obtain ⟨s0, s1, s2, s3, s4, s5, s6, s7, s8, s9, s10⟩ := hS; go_simp; try with_reducible rfl) ?_)
        try simp only [Act.put, List.getElem_toArray, List.getElem_cons_succ, List.getElem_cons_zero, List.setIfInBounds_toArray, List.set_cons_zero, List.set_cons_succ]
        refine Wk.call (m := 1) (k := 11) (v := .bool false) _ _ rfl (by rfl) (fun wv hS => by obtain ⟨s0, s1, s2, s3, s4, s5, s6, s7, s8, s9, s10⟩ := hS; go_simp; first | done | exact ⟨rfl, rfl⟩ | with_reducible rfl) (fun wv hS => ?_) ?_; · obtain ⟨s0, s1, s2, s3, s4, s5, s6, s7, s8, s9, s10⟩ := hS; refine (specVerify a0 a1 n0 c0 n1 c1 B zA x0 β x.nd x.ing x.eg x.exp x.mac wv (hA.mk (hM'.trans s0) hB (.inr (Nat.le_refl _))) (Nat.le_trans hB (hM'.trans s0).size) hn0 HZ.out HXF.out).mono ?_; rintro e w' ⟨he, mm⟩; exact ⟨by rw [he, HV.out], ⟨s0.trans mm, mm.cellAt s1, mm.cellAt s2, mm.cellAt s3, mm.cellAt s4, mm.cellAt s5, mm.cellAt s6, mm.cellAt s7, mm.cellAt s8, mm.cellAt s9, mm.cellAt s10⟩⟩
        try simp only [Act.put, List.getElem_toArray, List.getElem_cons_succ, List.getElem_cons_zero, List.setIfInBounds_toArray, List.set_cons_zero, List.set_cons_succ]
        first | (refine Wk.skip (m := 0) (k := 12) rfl (by rfl) ?_) | (refine Wk.step (m := 0) (k := 12) (v := _) rfl (by rfl) (fun wv hS => by obtain ⟨s0, s1, s2, s3, s4, s5, s6, s7, s8, s9, s10⟩ := hS; go_simp; try with_reducible rfl) ?_)
        try simp only [Act.put, List.getElem_toArray, List.getElem_cons_succ, List.getElem_cons_zero, List.setIfInBounds_toArray, List.set_cons_zero, List.set_cons_succ]
        refine Wk.done fun wE hE => ?_
        clear k0 k1 j0 j1 j2 d0 d1 d2 d3 d4
        obtain ⟨mE, k0, k1, j0, j1, j2, d0, d1, d2, d3, d4⟩ := hE
        go_wp2_with fail
        go_ret
        exact ⟨retI HE.out.symm, hM'.trans mE⟩
      · rw [hv] at HV hV
        have HV2 := Lib.hid hV.out.symm
        have HE := Lib.hid (show fiV zA n0 x0 x1 hs n = fiN (badH zA n0 x0 x1 hs) n (n - (k + 1)) by rw [hS.out]; exact fiN_go hlt (by unfold badH; rw [HV2.out]; rfl))
        clear hv hV
        go_wp2_with fail
        refine wp_region_wk (fun w' => Mk0 wr w' ∧ w'.cell? ⟨w.heap.size, 0, none⟩ = some (.slice a0 n0 c0) ∧ w'.cell? ⟨w.heap.size, 1, none⟩ = some (.slice a1 n1 c1) ∧ w'.cell? ⟨w.heap.size + 1, 0, none⟩ = some (.int .i64 x0) ∧ w'.cell? ⟨w.heap.size + 1, 1, none⟩ = some (.int .i64 x1) ∧ w'.cell? ⟨w.heap.size + 1, 2, none⟩ = some (.slice (some ⟨b, off, none⟩) n c) ∧ w'.cell? ⟨b, off + k * 5, none⟩ = some (.int .i64 x.nd) ∧ w'.cell? ⟨b, off + k * 5 + 1, none⟩ = some (.int .i64 x.ing) ∧ w'.cell? ⟨b, off + k * 5 + 2, none⟩ = some (.int .i64 x.eg) ∧ w'.cell? ⟨b, off + k * 5 + 3, none⟩ = some (.int .i64 x.exp) ∧ w'.cell? ⟨b, off + k * 5 + 4, none⟩ = some (.int .i64 x.mac)) (by kernel_rfl) (by kernel_rfl) (⟨Mk.drew1 _, k0, k1, j0, j1, j2, d0, d1, d2, d3, d4⟩) ?_
        change Wk _ _ _ _ 13 0 _
        first | (refine Wk.skip (m := 12) (k := 0) rfl (by rfl) ?_) | (refine Wk.step (m := 12) (k := 0) (v := _) rfl (by rfl) (fun wv hS => by obtain ⟨s0, s1, s2, s3, s4, s5, s6, s7, s8, s9, s10⟩ := hS; go_simp; try with_reducible rfl) ?_)
        try simp only [Act.put, List.getElem_toArray, List.getElem_cons_zero, List.setIfInBounds_toArray, List.set_cons_zero, List.set_cons_succ]
        first | (refine Wk.skip (m := 11) (k := 1) rfl (by rfl) ?_) | (refine Wk.step (m := 11) (k := 1) (v := _) rfl (by rfl) (fun wv hS => by obtain ⟨s0, s1, s2, s3, s4, s5, s6, s7, s8, s9, s10⟩ := hS; go_simp; try with_reducible rfl) ?_)
        try simp only [Act.put, List.getElem_toArray, List.getElem_cons_succ, List.getElem_cons_zero, List.setIfInBounds_toArray, List.set_cons_zero, List.set_cons_succ]
        first | (refine Wk.skip (m := 10) (k := 2) rfl (by rfl) ?_) | (refine Wk.step (m := 10) (k := 2) (v := _) rfl (by rfl) (fun wv hS => by obtain ⟨s0, s1, s2, s3, s4, s5, s6, s7, s8, s9, s10⟩ := hS; go_simp; try with_reducible rfl) ?_)
        try simp only [Act.put, List.getElem_toArray, List.getElem_cons_succ, List.getElem_cons_zero, List.setIfInBounds_toArray, List.set_cons_zero, List.set_cons_succ]
        first | (refine Wk.skip (m := 9) (k := 3) rfl (by rfl) ?_) | (refine Wk.step (m := 9) (k := 3) (v := _) rfl (by rfl) (fun wv hS => by obtain ⟨s0, s1, s2, s3, s4, s5, s6, s7, s8, s9, s10⟩ := hS; go_simp; try with_reducible rfl) ?_)
        try simp only [Act.put, List.getElem_toArray, List.getElem_cons_succ, List.getElem_cons_zero, List.setIfInBounds_toArray, List.set_cons_zero, List.set_cons_succ]
        first | (refine Wk.skip (m := 8) (k := 4) rfl (by rfl) ?_) | (refine Wk.step (m := 8) (k := 4) (v := _) rfl (by rfl) (fun wv hS => by obtain ⟨s0, s1, s2, s3, s4, s5, s6, s7, s8, s9, s10⟩ := hS; go_simp; try with_reducible rfl) ?_)
        try simp only [Act.put, List.getElem_toArray, List.getElem_cons_succ, List.getElem_cons_zero, List.setIfInBounds_toArray, List.set_cons_zero, List.set_cons_succ]
        refine Wk.call (m := 7) (k := 5) (v := .int .i64 β) _ _ rfl (by rfl) (fun wv hS => by obtain ⟨s0, s1, s2, s3, s4, s5, s6, s7, s8, s9, s10⟩ := hS; go_simp; first | done | exact ⟨rfl, rfl⟩ | with_reducible rfl) (fun wv hS => ?_) ?_; · obtain ⟨s0, s1, s2, s3, s4, s5, s6, s7, s8, s9, s10⟩ := hS; refine (specBetaAt x0 x1 _ n c B' hs (k : Int) wv (h.mk (hM'.trans s0) hB' (.inr (Nat.le_refl _))) (Nat.le_trans hB' (hM'.trans s0).size) hn).mono ?_; rintro e w' ⟨he, mm⟩; exact ⟨by rw [he, HBE.out], ⟨s0.trans mm, mm.cellAt s1, mm.cellAt s2, mm.cellAt s3, mm.cellAt s4, mm.cellAt s5, mm.cellAt s6, mm.cellAt s7, mm.cellAt s8, mm.cellAt s9, mm.cellAt s10⟩⟩
        try simp only [Act.put, List.getElem_toArray, List.getElem_cons_succ, List.getElem_cons_zero, List.setIfInBounds_toArray, List.set_cons_zero, List.set_cons_succ]
        first | (refine Wk.skip (m := 6) (k := 6) rfl (by rfl) ?_) | (refine Wk.step (m := 6) (k := 6) (v := _) rfl (by rfl) (fun wv hS => by obtain ⟨s0, s1, s2, s3, s4, s5, s6, s7, s8, s9, s10⟩ := hS; go_simp; try with_reducible rfl) ?_)
        try simp only [Act.put, List.getElem_toArray, List.getElem_cons_succ, List.getElem_cons_zero, List.setIfInBounds_toArray, List.set_cons_zero, List.set_cons_succ]
        first | (refine Wk.skip (m := 5) (k := 7) rfl (by rfl) ?_) | (refine Wk.step (m := 5) (k := 7) (v := _) rfl (by rfl) (fun wv hS => by obtain ⟨s0, s1, s2, s3, s4, s5, s6, s7, s8, s9, s10⟩ := hS; go_simp; try with_reducible rfl) ?_)
        try simp only [Act.put, List.getElem_toArray, List.getElem_cons_succ, List.getElem_cons_zero, List.setIfInBounds_toArray, List.set_cons_zero, List.set_cons_succ]
        first | (refine Wk.skip (m := 4) (k := 8) rfl (by rfl) ?_) | (refine Wk.step (m := 4) (k := 8) (v := _) rfl (by rfl) (fun wv hS => by obtain ⟨s0, s1, s2, s3, s4, s5, s6, s7, s8, s9, s10⟩ := hS; go_simp; try with_reducible rfl) ?_)
        try simp only [Act.put, List.getElem_toArray, List.getElem_cons_succ, List.getElem_cons_zero, List.setIfInBounds_toArray, List.set_cons_zero, List.set_cons_succ]
        first | (refine Wk.skip (m := 3) (k := 9) rfl (by rfl) ?_) | (refine Wk.step (m := 3) (k := 9) (v := _) rfl (by rfl) (fun wv hS => by obtain ⟨s0, s1, s2, s3, s4, s5, s6, s7, s8, s9, s10⟩ := hS; go_simp; try with_reducible rfl) ?_)
        try simp only [Act.put, List.getElem_toArray, List.getElem_cons_succ, List.getElem_cons_zero, List.setIfInBounds_toArray, List.set_cons_zero, List.set_cons_succ]
        first | (refine Wk.skip (m := 2) (k := 10) rfl (by rfl) ?_) | (refine Wk.step (m := 2) (k := 10) (v := _) rfl (by rfl) (fun wv hS => by obtain ⟨s0, s1, s2, s3, s4, s5, s6, s7, s8, s9, s10⟩ := hS; go_simp; try with_reducible rfl) ?_)
        try simp only [Act.put, List.getElem_toArray, List.getElem_cons_succ, List.getElem_cons_zero, List.setIfInBounds_toArray, List.set_cons_zero, List.set_cons_succ]
        refine Wk.call (m := 1) (k := 11) (v := .bool true) _ _ rfl (by rfl) (fun wv hS => by obtain ⟨s0, s1, s2, s3, s4, s5, s6, s7, s8, s9, s10⟩ := hS; go_simp; first | done | exact ⟨rfl, rfl⟩ | with_reducible rfl) (fun wv hS => ?_) ?_; · obtain ⟨s0, s1, s2, s3, s4, s5, s6, s7, s8, s9, s10⟩ := hS; refine (specVerify a0 a1 n0 c0 n1 c1 B zA x0 β x.nd x.ing x.eg x.exp x.mac wv (hA.mk (hM'.trans s0) hB (.inr (Nat.le_refl _))) (Nat.le_trans hB (hM'.trans s0).size) hn0 HZ.out HXF.out).mono ?_; rintro e w' ⟨he, mm⟩; exact ⟨by rw [he, HV.out], ⟨s0.trans mm, mm.cellAt s1, mm.cellAt s2, mm.cellAt s3, mm.cellAt s4, mm.cellAt s5, mm.cellAt s6, mm.cellAt s7, mm.cellAt s8, mm.cellAt s9, mm.cellAt s10⟩⟩
        try simp only [Act.put, List.getElem_toArray, List.getElem_cons_succ, List.getElem_cons_zero, List.setIfInBounds_toArray, List.set_cons_zero, List.set_cons_succ]
        first | (refine Wk.skip (m := 0) (k := 12) rfl (by rfl) ?_) | (refine Wk.step (m := 0) (k := 12) (v := _) rfl (by rfl) (fun wv hS => by obtain ⟨s0, s1, s2, s3, s4, s5, s6, s7, s8, s9, s10⟩ := hS; go_simp; try with_reducible rfl) ?_)
        try simp only [Act.put, List.getElem_toArray, List.getElem_cons_succ, List.getElem_cons_zero, List.setIfInBounds_toArray, List.set_cons_zero, List.set_cons_succ]
        refine Wk.done fun wE hE => ?_
        clear k0 k1 j0 j1 j2 d0 d1 d2 d3 d4
        obtain ⟨mE, k0, k1, j0, j1, j2, d0, d1, d2, d3, d4⟩ := hE
        go_wp2_with fail
        go_roundw
        case rel => exact ⟨rfl, k + 1, by omega, by go_num, HE.out, hM.trans mE⟩
        case measure => simp [intOf]; omega
    · obtain rfl : k = n := by omega
      go_wp2_with fail
      go_ret
      exact ⟨retI (by rw [hS.out, Nat.sub_self]; rfl), hM'⟩

end Go.Proofs.YtdhdkhnefnbdgaaGreatDoor
namespace Go.Proofs.YtdhdkhnefnbdgaaGreatDoor
open Go.ChangeShapes Go.WideShapes Go.ChangeAt Go.RowKit
set_option linter.unusedVariables false
def vsB (n0 : Nat) (zA : List TAS) (zl : List TLink) (n1 : Nat) (x0 x1 : Int) (hs : List THop) (n : Nat) : Bool :=
  wfB n0 zl n1 hs n && decide (fiV zA n0 x0 x1 hs n < 0) && !(sgKd n0 zA zl n1 hs n == 0) && inB x0 0 1000000 && inB x1 0 2147483646
def ceB (n0 : Nat) (zA : List TAS) (zl : List TLink) (n1 : Nat) (x0 x1 : Int) (hs : List THop) (n : Nat) (r i : Int) : Bool :=
  isAsB n0 r && vsB n0 zA zl n1 x0 x1 hs n && !segEnds hs n && !inUp (nthI (colN THop.nd hs n)) r n && ((remote zl (hs.getD (n - 1) default).nd (hs.getD (n - 1) default).eg n1).1 == r && (remote zl (hs.getD (n - 1) default).nd (hs.getD (n - 1) default).eg n1).2 == i)
theorem vsB_n {n0 : Nat} {zA : List TAS} {zl : List TLink} {n1 : Nat} {x0 x1 : Int} {hs : List THop} {n : Nat} (h : vsB n0 zA zl n1 x0 x1 hs n = true) : 1 ≤ n ∧ n ≤ 8 := by
  unfold vsB at h
  simp only [Bool.and_eq_true] at h
  exact wfB_n h.1.1.1.1
theorem fiV_eq (zA : List TAS) (n0 : Nat) (t b : Int) (hs : List THop) (n : Nat) : (fiV zA n0 t b hs n == -1) = decide (fiV zA n0 t b hs n < 0) := by
  have := fiN_ge (badH zA n0 t b hs) n n
  unfold fiV
  by_cases h : fiN (badH zA n0 t b hs) n n < 0
  · rw [decide_eq_true h, show fiN (badH zA n0 t b hs) n n = -1 by omega]; rfl
  · rw [decide_eq_false h]; exact beq_eq_false_iff_ne.2 (by omega)
set_option maxRecDepth 100000 in
set_option maxHeartbeats 4000000 in
theorem specVSeg (a0 a1 : Option Addr) (n0 c0 n1 c1 B : Nat) (zA : List TAS) (zl : List TLink) (x0 x1 : Int) (a : Option Addr) (n c B' : Nat) (hs : List THop) (w : World) (hA : HasAS w B a0 n0 zA) (hl : HasLink w B a1 n1 zl) (hB : B ≤ w.heap.size) (hn0 : n0 ≤ 1048576) (hn1 : n1 ≤ 1048576) (h : HasHop w B' a n hs) (hB' : B' ≤ w.heap.size) (hn : n ≤ 1048576) (hz : ∀ y ∈ zA, TAS.fits y) (ht : (Lit.int .i64 x0).wf = true) (hb : (Lit.int .i64 x1).wf = true) (hf : ∀ y ∈ hs, THop.fits y) :
    Calls Tryz.prog 22 #[.agg #[.slice a0 n0 c0, .slice a1 n1 c1], .agg #[.int .i64 x0, .int .i64 x1, .slice a n c]] w fun e w' => e = .returned (.bool (vsB n0 zA zl n1 x0 x1 hs n)) ∧ Mk0 w w' := by
  have M0 := (Mk.alloc w (Obj.cells #[Value.slice a0 n0 c0, Value.slice a1 n1 c1] 35)).new (Obj.cells #[Value.int .i64 x0, Value.int .i64 x1, Value.slice a n c] 39)
  have k0 : ((w.alloc (Obj.cells #[Value.slice a0 n0 c0, Value.slice a1 n1 c1] 35)).alloc (Obj.cells #[Value.int .i64 x0, Value.int .i64 x1, Value.slice a n c] 39)).cell? ⟨w.heap.size, 0, none⟩ = some (.slice a0 n0 c0) := by simp [go_sem]
  have k1 : ((w.alloc (Obj.cells #[Value.slice a0 n0 c0, Value.slice a1 n1 c1] 35)).alloc (Obj.cells #[Value.int .i64 x0, Value.int .i64 x1, Value.slice a n c] 39)).cell? ⟨w.heap.size, 1, none⟩ = some (.slice a1 n1 c1) := by simp [go_sem]
  have j0 : ((w.alloc (Obj.cells #[Value.slice a0 n0 c0, Value.slice a1 n1 c1] 35)).alloc (Obj.cells #[Value.int .i64 x0, Value.int .i64 x1, Value.slice a n c] 39)).cell? ⟨w.heap.size + 1, 0, none⟩ = some (.int .i64 x0) := by simp [go_sem]
  have j1 : ((w.alloc (Obj.cells #[Value.slice a0 n0 c0, Value.slice a1 n1 c1] 35)).alloc (Obj.cells #[Value.int .i64 x0, Value.int .i64 x1, Value.slice a n c] 39)).cell? ⟨w.heap.size + 1, 1, none⟩ = some (.int .i64 x1) := by simp [go_sem]
  have j2 : ((w.alloc (Obj.cells #[Value.slice a0 n0 c0, Value.slice a1 n1 c1] 35)).alloc (Obj.cells #[Value.int .i64 x0, Value.int .i64 x1, Value.slice a n c] 39)).cell? ⟨w.heap.size + 1, 2, none⟩ = some (.slice a n c) := by simp [go_sem]
  have HZ := Lib.hid hz
  have HF := Lib.hid hf
  have HT := Lib.hid ht
  have HBT := Lib.hid hb
  clear hz hf ht hb
  go_enter Tryz.func22, Tryz.ntmps22
  go_wp2_with fail
  generalize ((w.alloc (Obj.cells #[Value.slice a0 n0 c0, Value.slice a1 n1 c1] 35)).alloc (Obj.cells #[Value.int .i64 x0, Value.int .i64 x1, Value.slice a n c] 39)) = WW at *
  refine (specWF a0 a1 n0 c0 n1 c1 B zl x0 x1 a n c B' hs _ (hl.mk M0 hB (.inr (Nat.le_refl _))) (Nat.le_trans hB M0.size) hn0 hn1 (h.mk M0 hB' (.inr (Nat.le_refl _))) (Nat.le_trans hB' M0.size) hn).mono ?_
  rintro e w2 ⟨he, m2⟩
  have M2 := M0.trans m2
  cases q1 : wfB n0 zl n1 hs n
  · have HR := Lib.hid (show vsB n0 zA zl n1 x0 x1 hs n = false by unfold vsB; rw [q1]; first | done | rfl | simp)
    rw [q1] at he
    subst he
    clear q1
    go_wp2_with fail
    go_ret
    exact ⟨retB HR.out.symm, M2⟩
  · have Q1 := Lib.hid q1
    rw [q1] at he
    subst he
    clear q1
    replace k0 := m2.cellAt k0
    replace k1 := m2.cellAt k1
    replace j0 := m2.cellAt j0
    replace j1 := m2.cellAt j1
    replace j2 := m2.cellAt j2
    go_wp2_with fail
    refine (specFInv a0 a1 n0 c0 n1 c1 B zA x0 x1 a n c B' hs _ (hA.mk M2 hB (.inr (Nat.le_refl _))) (Nat.le_trans hB M2.size) hn0 (h.mk M2 hB' (.inr (Nat.le_refl _))) (Nat.le_trans hB' M2.size) hn HZ.out HT.out HBT.out HF.out).mono ?_
    rintro e w3 ⟨he, m3⟩
    have M3 := M2.trans m3
    obtain ⟨v, hv⟩ : ∃ v, Hid (v = fiV zA n0 x0 x1 hs n) := ⟨_, Lib.hid rfl⟩
    rw [← hv.out] at he
    subst he
    have Q2 := Lib.hid (show decide (fiV zA n0 x0 x1 hs n < 0) = decide (v < 0) by rw [hv.out])
    clear hv
    cases q2 : decide (v < 0)
    · rw [q2] at Q2
      have HR := Lib.hid (show vsB n0 zA zl n1 x0 x1 hs n = false by unfold vsB; rw [Q1.out, Q2.out]; first | done | rfl | simp)
      go_wp2_with fail
      go_ret
      exact ⟨retB HR.out.symm, M3⟩
    · rw [q2] at Q2
      replace k0 := m3.cellAt k0
      replace k1 := m3.cellAt k1
      replace j0 := m3.cellAt j0
      replace j1 := m3.cellAt j1
      replace j2 := m3.cellAt j2
      go_wp2_with fail
      clear q2
      refine (specSgKind a0 a1 n0 c0 n1 c1 B zA zl x0 x1 a n c B' hs _ (hA.mk M3 hB (.inr (Nat.le_refl _))) (hl.mk M3 hB (.inr (Nat.le_refl _))) (Nat.le_trans hB M3.size) hn0 hn1 (h.mk M3 hB' (.inr (Nat.le_refl _))) (Nat.le_trans hB' M3.size) hn).mono ?_
      rintro e w4 ⟨he, m4⟩
      have M4 := M3.trans m4
      obtain ⟨k, hk⟩ : ∃ k, Hid (k = sgKd n0 zA zl n1 hs n) := ⟨_, Lib.hid rfl⟩
      rw [← hk.out] at he
      subst he
      have Q3 := Lib.hid (show (sgKd n0 zA zl n1 hs n == 0) = !(k != 0) by rw [hk.out]; simp [bne])
      clear hk
      cases q3 : (k != 0)
      · rw [q3] at Q3
        have HR := Lib.hid (show vsB n0 zA zl n1 x0 x1 hs n = false by unfold vsB; rw [Q1.out, Q2.out, Q3.out]; first | done | rfl | simp)
        go_wp2_with fail
        go_ret
        exact ⟨retB HR.out.symm, M4⟩
      · rw [q3] at Q3
        replace k0 := m4.cellAt k0
        replace k1 := m4.cellAt k1
        replace j0 := m4.cellAt j0
        replace j1 := m4.cellAt j1
        replace j2 := m4.cellAt j2
        go_wp2_with fail
        clear q3
        refine (specIn x0 0 1000000 _).mono ?_
        rintro e w' ⟨he, rfl⟩
        cases q4 : inB x0 0 1000000
        · have HR := Lib.hid (show vsB n0 zA zl n1 x0 x1 hs n = false by unfold vsB; rw [Q1.out, Q2.out, Q3.out, q4]; first | done | rfl | simp)
          rw [q4] at he
          subst he
          clear q4
          go_wp2_with fail
          go_ret
          exact ⟨retB HR.out.symm, M4⟩
        · have HR := Lib.hid (show vsB n0 zA zl n1 x0 x1 hs n = inB x1 0 2147483646 by unfold vsB; rw [Q1.out, Q2.out, Q3.out, q4]; first | done | rfl | simp)
          rw [q4] at he
          subst he
          clear q4
          go_wp2_with fail
          refine (specRes x1 _).mono ?_
          rintro e w' ⟨rfl, rfl⟩
          go_wp2_with fail
          go_ret
          exact ⟨retB HR.out.symm, M4⟩

set_option maxRecDepth 100000 in
set_option maxHeartbeats 4000000 in
theorem implVSeg (a0 a1 : Option Addr) (n0 c0 n1 c1 B : Nat) (zA : List TAS) (zl : List TLink) (x0 x1 : Int) (a : Option Addr) (n c B' : Nat) (hs : List THop) (w : World) (hA : HasAS w B a0 n0 zA) (hl : HasLink w B a1 n1 zl) (hB : B ≤ w.heap.size) (hn0 : n0 ≤ 1048576) (hn1 : n1 ≤ 1048576) (h : HasHop w B' a n hs) (hB' : B' ≤ w.heap.size) (hn : n ≤ 1048576) (hz : ∀ y ∈ zA, TAS.fits y) (ht : (Lit.int .i64 x0).wf = true) (hb : (Lit.int .i64 x1).wf = true) (hf : ∀ y ∈ hs, THop.fits y) (hg : w.cell? ⟨0, 0, none⟩ = some (.iface 142 (.agg #[.pointer (some ⟨1, 117, none⟩)]))) :
    Calls Tryz.prog 31 #[.agg #[.slice a0 n0 c0, .slice a1 n1 c1], .agg #[.int .i64 x0, .int .i64 x1, .slice a n c]] w fun e w' => e = .returned (.bool (vsB n0 zA zl n1 x0 x1 hs n)) ∧ Mk0 w w' := by
  have M0 := (Mk.alloc w (Obj.cells #[Value.slice a0 n0 c0, Value.slice a1 n1 c1] 35)).new (Obj.cells #[Value.int .i64 x0, Value.int .i64 x1, Value.slice a n c] 39)
  have k0 : ((w.alloc (Obj.cells #[Value.slice a0 n0 c0, Value.slice a1 n1 c1] 35)).alloc (Obj.cells #[Value.int .i64 x0, Value.int .i64 x1, Value.slice a n c] 39)).cell? ⟨w.heap.size, 0, none⟩ = some (.slice a0 n0 c0) := by simp [go_sem]
  have k1 : ((w.alloc (Obj.cells #[Value.slice a0 n0 c0, Value.slice a1 n1 c1] 35)).alloc (Obj.cells #[Value.int .i64 x0, Value.int .i64 x1, Value.slice a n c] 39)).cell? ⟨w.heap.size, 1, none⟩ = some (.slice a1 n1 c1) := by simp [go_sem]
  have j0 : ((w.alloc (Obj.cells #[Value.slice a0 n0 c0, Value.slice a1 n1 c1] 35)).alloc (Obj.cells #[Value.int .i64 x0, Value.int .i64 x1, Value.slice a n c] 39)).cell? ⟨w.heap.size + 1, 0, none⟩ = some (.int .i64 x0) := by simp [go_sem]
  have j1 : ((w.alloc (Obj.cells #[Value.slice a0 n0 c0, Value.slice a1 n1 c1] 35)).alloc (Obj.cells #[Value.int .i64 x0, Value.int .i64 x1, Value.slice a n c] 39)).cell? ⟨w.heap.size + 1, 1, none⟩ = some (.int .i64 x1) := by simp [go_sem]
  have j2 : ((w.alloc (Obj.cells #[Value.slice a0 n0 c0, Value.slice a1 n1 c1] 35)).alloc (Obj.cells #[Value.int .i64 x0, Value.int .i64 x1, Value.slice a n c] 39)).cell? ⟨w.heap.size + 1, 2, none⟩ = some (.slice a n c) := by simp [go_sem]
  have HZ := Lib.hid hz
  have HF := Lib.hid hf
  have HT := Lib.hid ht
  have HBT := Lib.hid hb
  clear hz hf ht hb
  replace hg := M0.cellAt hg
  go_enter Tryz.func31, Tryz.ntmps31
  go_wp2_with fail
  generalize ((w.alloc (Obj.cells #[Value.slice a0 n0 c0, Value.slice a1 n1 c1] 35)).alloc (Obj.cells #[Value.int .i64 x0, Value.int .i64 x1, Value.slice a n c] 39)) = WW at *
  refine (implWF a0 a1 n0 c0 n1 c1 B zl x0 x1 a n c B' hs _ (hl.mk M0 hB (.inr (Nat.le_refl _))) (Nat.le_trans hB M0.size) hn0 hn1 (h.mk M0 hB' (.inr (Nat.le_refl _))) (Nat.le_trans hB' M0.size) hn).mono ?_
  rintro e w2 ⟨he, m2⟩
  have M2 := M0.trans m2
  cases q1 : wfB n0 zl n1 hs n
  · have HR := Lib.hid (show vsB n0 zA zl n1 x0 x1 hs n = false by unfold vsB; rw [q1]; first | done | rfl | simp)
    rw [q1] at he
    subst he
    clear q1
    go_wp2_with fail
    go_ret
    exact ⟨retB HR.out.symm, M2⟩
  · have Q1 := Lib.hid q1
    rw [q1] at he
    subst he
    clear q1
    replace k0 := m2.cellAt k0
    replace k1 := m2.cellAt k1
    replace j0 := m2.cellAt j0
    replace j1 := m2.cellAt j1
    replace j2 := m2.cellAt j2
    replace hg := m2.cellAt hg
    go_wp2_with fail
    refine (implFInv a0 a1 n0 c0 n1 c1 B zA x0 x1 a n c B' hs _ (hA.mk M2 hB (.inr (Nat.le_refl _))) (Nat.le_trans hB M2.size) hn0 (h.mk M2 hB' (.inr (Nat.le_refl _))) (Nat.le_trans hB' M2.size) hn HZ.out HT.out HBT.out HF.out hg).mono ?_
    rintro e w3 ⟨he, m3⟩
    have M3 := M2.trans m3
    obtain ⟨v, hv⟩ : ∃ v, Hid (v = fiV zA n0 x0 x1 hs n) := ⟨_, Lib.hid rfl⟩
    rw [← hv.out] at he
    subst he
    have Q2 := Lib.hid (show decide (fiV zA n0 x0 x1 hs n < 0) = (v == -1) by rw [hv.out]; exact (fiV_eq _ _ _ _ _ _).symm)
    clear hv
    cases q2 : (v == -1)
    · rw [q2] at Q2
      have HR := Lib.hid (show vsB n0 zA zl n1 x0 x1 hs n = false by unfold vsB; rw [Q1.out, Q2.out]; first | done | rfl | simp)
      go_wp2_with fail
      go_ret
      exact ⟨retB HR.out.symm, M3⟩
    · rw [q2] at Q2
      replace k0 := m3.cellAt k0
      replace k1 := m3.cellAt k1
      replace j0 := m3.cellAt j0
      replace j1 := m3.cellAt j1
      replace j2 := m3.cellAt j2
      replace hg := m3.cellAt hg
      go_wp2_with fail
      clear q2
      refine (implSgKind a0 a1 n0 c0 n1 c1 B zA zl x0 x1 a n c B' hs _ (hA.mk M3 hB (.inr (Nat.le_refl _))) (hl.mk M3 hB (.inr (Nat.le_refl _))) (Nat.le_trans hB M3.size) hn0 hn1 (h.mk M3 hB' (.inr (Nat.le_refl _))) (Nat.le_trans hB' M3.size) hn).mono ?_
      rintro e w4 ⟨he, m4⟩
      have M4 := M3.trans m4
      obtain ⟨k, hk⟩ : ∃ k, Hid (k = sgKd n0 zA zl n1 hs n) := ⟨_, Lib.hid rfl⟩
      rw [← hk.out] at he
      subst he
      have Q3 := Lib.hid (show (sgKd n0 zA zl n1 hs n == 0) = !(k != 0) by rw [hk.out]; simp [bne])
      clear hk
      cases q3 : (k != 0)
      · rw [q3] at Q3
        have HR := Lib.hid (show vsB n0 zA zl n1 x0 x1 hs n = false by unfold vsB; rw [Q1.out, Q2.out, Q3.out]; first | done | rfl | simp)
        go_wp2_with fail
        go_ret
        exact ⟨retB HR.out.symm, M4⟩
      · rw [q3] at Q3
        replace k0 := m4.cellAt k0
        replace k1 := m4.cellAt k1
        replace j0 := m4.cellAt j0
        replace j1 := m4.cellAt j1
        replace j2 := m4.cellAt j2
        replace hg := m4.cellAt hg
        go_wp2_with fail
        clear q3
        refine (implTime x0 _).mono ?_
        rintro e w' ⟨he, rfl⟩
        cases q4 : inB x0 0 1000000
        · have HR := Lib.hid (show vsB n0 zA zl n1 x0 x1 hs n = false by unfold vsB; rw [Q1.out, Q2.out, Q3.out, q4]; first | done | rfl | simp)
          rw [q4] at he
          subst he
          clear q4
          go_wp2_with fail
          go_ret
          exact ⟨retB HR.out.symm, M4⟩
        · have HR := Lib.hid (show vsB n0 zA zl n1 x0 x1 hs n = inB x1 0 2147483646 by unfold vsB; rw [Q1.out, Q2.out, Q3.out, q4]; first | done | rfl | simp)
          rw [q4] at he
          subst he
          clear q4
          go_wp2_with fail
          refine (implRes x1 _).mono ?_
          rintro e w' ⟨rfl, rfl⟩
          go_wp2_with fail
          go_ret
          exact ⟨retB HR.out.symm, M4⟩

end Go.Proofs.YtdhdkhnefnbdgaaGreatDoor
namespace Go.Proofs.YtdhdkhnefnbdgaaGreatDoor
open Go.ChangeShapes Go.WideShapes Go.ChangeAt Go.RowKit
set_option linter.unusedVariables false
set_option maxRecDepth 100000 in
set_option maxHeartbeats 4000000 in
theorem specCExt (a0 a1 : Option Addr) (n0 c0 n1 c1 B : Nat) (zA : List TAS) (zl : List TLink) (x0 x1 : Int) (a : Option Addr) (n c B' : Nat) (hs : List THop) (r i : Int) (w : World) (hA : HasAS w B a0 n0 zA) (hl : HasLink w B a1 n1 zl) (hB : B ≤ w.heap.size) (hn0 : n0 ≤ 1048576) (hn1 : n1 ≤ 1048576) (h : HasHop w B' a n hs) (hB' : B' ≤ w.heap.size) (hn : n ≤ 1048576) (hz : ∀ y ∈ zA, TAS.fits y) (ht : (Lit.int .i64 x0).wf = true) (hb : (Lit.int .i64 x1).wf = true) (hf : ∀ y ∈ hs, THop.fits y) :
    Calls Tryz.prog 7 #[.agg #[.slice a0 n0 c0, .slice a1 n1 c1], .agg #[.int .i64 x0, .int .i64 x1, .slice a n c], .int .i64 r, .int .i64 i] w fun e w' => e = .returned (.bool (ceB n0 zA zl n1 x0 x1 hs n r i)) ∧ Mk0 w w' := by
  have M0 := (Mk.alloc w (Obj.cells #[Value.slice a0 n0 c0, Value.slice a1 n1 c1] 35)).new (Obj.cells #[Value.int .i64 x0, Value.int .i64 x1, Value.slice a n c] 39)
  have k0 : ((w.alloc (Obj.cells #[Value.slice a0 n0 c0, Value.slice a1 n1 c1] 35)).alloc (Obj.cells #[Value.int .i64 x0, Value.int .i64 x1, Value.slice a n c] 39)).cell? ⟨w.heap.size, 0, none⟩ = some (.slice a0 n0 c0) := by simp [go_sem]
  have k1 : ((w.alloc (Obj.cells #[Value.slice a0 n0 c0, Value.slice a1 n1 c1] 35)).alloc (Obj.cells #[Value.int .i64 x0, Value.int .i64 x1, Value.slice a n c] 39)).cell? ⟨w.heap.size, 1, none⟩ = some (.slice a1 n1 c1) := by simp [go_sem]
  have j0 : ((w.alloc (Obj.cells #[Value.slice a0 n0 c0, Value.slice a1 n1 c1] 35)).alloc (Obj.cells #[Value.int .i64 x0, Value.int .i64 x1, Value.slice a n c] 39)).cell? ⟨w.heap.size + 1, 0, none⟩ = some (.int .i64 x0) := by simp [go_sem]
  have j1 : ((w.alloc (Obj.cells #[Value.slice a0 n0 c0, Value.slice a1 n1 c1] 35)).alloc (Obj.cells #[Value.int .i64 x0, Value.int .i64 x1, Value.slice a n c] 39)).cell? ⟨w.heap.size + 1, 1, none⟩ = some (.int .i64 x1) := by simp [go_sem]
  have j2 : ((w.alloc (Obj.cells #[Value.slice a0 n0 c0, Value.slice a1 n1 c1] 35)).alloc (Obj.cells #[Value.int .i64 x0, Value.int .i64 x1, Value.slice a n c] 39)).cell? ⟨w.heap.size + 1, 2, none⟩ = some (.slice a n c) := by simp [go_sem]
  have HZ := Lib.hid hz
  have HF := Lib.hid hf
  have HT := Lib.hid ht
  have HBT := Lib.hid hb
  clear hz hf ht hb
  go_enter Tryz.func7, Tryz.ntmps7
  go_wp2_with fail
  generalize ((w.alloc (Obj.cells #[Value.slice a0 n0 c0, Value.slice a1 n1 c1] 35)).alloc (Obj.cells #[Value.int .i64 x0, Value.int .i64 x1, Value.slice a n c] 39)) = WW at *
  refine (specIsAS a0 a1 n0 c0 n1 c1 r _ hn0).mono ?_
  rintro e w2 ⟨he, m2⟩
  have M2 := M0.trans m2
  cases q1 : isAsB n0 r
  · have HR := Lib.hid (show ceB n0 zA zl n1 x0 x1 hs n r i = false by unfold ceB; rw [q1]; first | done | rfl | simp)
    rw [q1] at he
    subst he
    clear q1
    go_wp2_with fail
    go_ret
    exact ⟨retB HR.out.symm, M2⟩
  · have Q1 := Lib.hid q1
    rw [q1] at he
    subst he
    clear q1
    replace k0 := m2.cellAt k0
    replace k1 := m2.cellAt k1
    replace j0 := m2.cellAt j0
    replace j1 := m2.cellAt j1
    replace j2 := m2.cellAt j2
    go_wp2_with fail
    refine (specVSeg a0 a1 n0 c0 n1 c1 B zA zl x0 x1 a n c B' hs _ (hA.mk M2 hB (.inr (Nat.le_refl _))) (hl.mk M2 hB (.inr (Nat.le_refl _))) (Nat.le_trans hB M2.size) hn0 hn1 (h.mk M2 hB' (.inr (Nat.le_refl _))) (Nat.le_trans hB' M2.size) hn HZ.out HT.out HBT.out HF.out).mono ?_
    rintro e w3 ⟨he, m3⟩
    have M3 := M2.trans m3
    cases q2 : vsB n0 zA zl n1 x0 x1 hs n
    · have HR := Lib.hid (show ceB n0 zA zl n1 x0 x1 hs n r i = false by unfold ceB; rw [Q1.out, q2]; first | done | rfl | simp)
      rw [q2] at he
      subst he
      clear q2
      go_wp2_with fail
      go_ret
      exact ⟨retB HR.out.symm, M3⟩
    · have Q2 := Lib.hid q2
      have hnb := vsB_n q2
      rw [q2] at he
      subst he
      clear q2
      replace k0 := m3.cellAt k0
      replace k1 := m3.cellAt k1
      replace j0 := m3.cellAt j0
      replace j1 := m3.cellAt j1
      replace j2 := m3.cellAt j2
      go_wp2_with fail
      refine (specTermd x0 x1 a n c B' hs _ (h.mk M3 hB' (.inr (Nat.le_refl _))) (Nat.le_trans hB' M3.size) hn).mono ?_
      rintro e w4 ⟨he, m4⟩
      have M4 := M3.trans m4
      cases q3 : segEnds hs n
      · have Q3 := Lib.hid q3
        rw [q3] at he
        subst he
        clear q3
        replace k0 := m4.cellAt k0
        replace k1 := m4.cellAt k1
        replace j0 := m4.cellAt j0
        replace j1 := m4.cellAt j1
        replace j2 := m4.cellAt j2
        go_wp2_with fail
        refine (specASes x0 x1 a n c B' hs _ (h.mk M4 hB' (.inr (Nat.le_refl _))) (Nat.le_trans hB' M4.size) hn).mono ?_
        rintro e w5 ⟨A, N, C, rfl, hA2, hO, bb⟩
        have m5 := Mk.of_below bb
        have M5 := M4.trans m5
        replace k0 := m5.cellAt k0
        replace k1 := m5.cellAt k1
        replace j0 := m5.cellAt j0
        replace j1 := m5.cellAt j1
        replace j2 := m5.cellAt j2
        obtain rfl : n = N := (colN_len _ _ _).symm.trans hO.1
        have hH := hO.has
        go_wp2_with fail
        refine (specHas9 r A n C _ (colN THop.nd hs n) _ hH (by omega)).mono ?_
        rintro e w' ⟨he, rfl⟩
        have QQ := Lib.hid (show inUp (nthI (colN THop.nd hs n)) r n = inUp (fun j => (colN THop.nd hs n).getD j 0) r n from rfl)
        cases q4 : inUp (fun j => (colN THop.nd hs n).getD j 0) r n
        rotate_left
        · have Q4 := Lib.hid (QQ.out.trans q4)
          have HR := Lib.hid (show ceB n0 zA zl n1 x0 x1 hs n r i = false by unfold ceB; rw [Q1.out, Q2.out, Q3.out, Q4.out]; first | done | rfl | simp)
          rw [q4] at he
          subst he
          clear q4
          go_wp2_with fail
          go_ret
          exact ⟨retB HR.out.symm, M5⟩
        · have Q4 := Lib.hid (QQ.out.trans q4)
          rw [q4] at he
          subst he
          clear q4 hO hH bb
          obtain ⟨m, rfl⟩ : ∃ m, n = m + 1 := ⟨n - 1, by omega⟩
          obtain ⟨b, off, x, rfl, hb, hx, d0, d1, d2, d3, d4⟩ := HasHop.at _ _ _ _ _ _ (h.mk M5 hB' (.inr (Nat.le_refl _))) (Nat.lt_succ_self m)
          have hbr := World.block_lt_of_cell? _ _ d0
          simp only at hbr
          have HR := Lib.hid (show ceB n0 zA zl n1 x0 x1 hs (m + 1) r i = ((remote zl x.nd x.eg n1).1 == r && (remote zl x.nd x.eg n1).2 == i) by unfold ceB; rw [Q1.out, Q2.out, Q3.out, Q4.out, show m + 1 - 1 = m from rfl, ← hx.out]; simp)
          clear Q1 Q2 Q3 Q4 QQ
          have hwr : IntKind.i64.wrap (((m + 1 : Nat) : Int) - 1) = (m : Int) := by rw [IntKind.wrap_i64]; omega
          have i1 : (0 : Int) ≤ (m : Int) := by omega
          have i2 : (m : Int) < ((m + 1 : Nat) : Int) := by omega
          have MX := Mk.alloc w5 (Obj.cells #[Value.int .i64 x.nd, Value.int .i64 x.ing, Value.int .i64 x.eg, Value.int .i64 x.exp, Value.int .i64 x.mac] 61)
          have e0 : (w5.alloc (Obj.cells #[Value.int .i64 x.nd, Value.int .i64 x.ing, Value.int .i64 x.eg, Value.int .i64 x.exp, Value.int .i64 x.mac] 61)).cell? ⟨w5.heap.size, 0, none⟩ = some (.int .i64 x.nd) := by simp [go_sem]
          have e2 : (w5.alloc (Obj.cells #[Value.int .i64 x.nd, Value.int .i64 x.ing, Value.int .i64 x.eg, Value.int .i64 x.exp, Value.int .i64 x.mac] 61)).cell? ⟨w5.heap.size, 2, none⟩ = some (.int .i64 x.eg) := by simp [go_sem]
          replace k0 := MX.cellAt k0
          replace k1 := MX.cellAt k1
          have M6 := M5.trans MX
          go_wp2_with fail
          refine (specRemote a0 a1 n0 c0 n1 c1 B zl x.nd x.eg _ (hl.mk M6 hB (.inr (Nat.le_refl _))) (Nat.le_trans hB M6.size) hn1).mono ?_
          rintro e w6 ⟨he, mw6⟩
          have M7 := M6.trans mw6
          obtain ⟨u, hu⟩ : ∃ u, Hid (u = (remote zl x.nd x.eg n1).1) := ⟨_, Lib.hid rfl⟩
          obtain ⟨v, hv⟩ : ∃ v, Hid (v = (remote zl x.nd x.eg n1).2) := ⟨_, Lib.hid rfl⟩
          rw [← hu.out, ← hv.out] at he HR
          subst he
          cases q5 : (u == r)
          · rw [q5, Bool.false_and] at HR
            go_wp2_with fail
            go_ret
            exact ⟨retB HR.out.symm, M7⟩
          · rw [q5, Bool.true_and] at HR
            go_wp2_with fail
            go_ret
            exact ⟨retB HR.out.symm, M7⟩
      · have HR := Lib.hid (show ceB n0 zA zl n1 x0 x1 hs n r i = false by unfold ceB; rw [Q1.out, Q2.out, q3]; first | done | rfl | simp)
        rw [q3] at he
        subst he
        clear q3
        go_wp2_with fail
        go_ret
        exact ⟨retB HR.out.symm, M4⟩

set_option maxRecDepth 100000 in
set_option maxHeartbeats 4000000 in
theorem implCExt (a0 a1 : Option Addr) (n0 c0 n1 c1 B : Nat) (zA : List TAS) (zl : List TLink) (x0 x1 : Int) (a : Option Addr) (n c B' : Nat) (hs : List THop) (r i : Int) (w : World) (hA : HasAS w B a0 n0 zA) (hl : HasLink w B a1 n1 zl) (hB : B ≤ w.heap.size) (hn0 : n0 ≤ 1048576) (hn1 : n1 ≤ 1048576) (h : HasHop w B' a n hs) (hB' : B' ≤ w.heap.size) (hn : n ≤ 1048576) (hz : ∀ y ∈ zA, TAS.fits y) (ht : (Lit.int .i64 x0).wf = true) (hb : (Lit.int .i64 x1).wf = true) (hf : ∀ y ∈ hs, THop.fits y) (hg : w.cell? ⟨0, 0, none⟩ = some (.iface 142 (.agg #[.pointer (some ⟨1, 117, none⟩)]))) :
    Calls Tryz.prog 10 #[.agg #[.slice a0 n0 c0, .slice a1 n1 c1], .agg #[.int .i64 x0, .int .i64 x1, .slice a n c], .int .i64 r, .int .i64 i] w fun e w' => e = .returned (.bool (ceB n0 zA zl n1 x0 x1 hs n r i)) ∧ Mk0 w w' := by
  have M0 := (Mk.alloc w (Obj.cells #[Value.slice a0 n0 c0, Value.slice a1 n1 c1] 35)).new (Obj.cells #[Value.int .i64 x0, Value.int .i64 x1, Value.slice a n c] 39)
  have k0 : ((w.alloc (Obj.cells #[Value.slice a0 n0 c0, Value.slice a1 n1 c1] 35)).alloc (Obj.cells #[Value.int .i64 x0, Value.int .i64 x1, Value.slice a n c] 39)).cell? ⟨w.heap.size, 0, none⟩ = some (.slice a0 n0 c0) := by simp [go_sem]
  have k1 : ((w.alloc (Obj.cells #[Value.slice a0 n0 c0, Value.slice a1 n1 c1] 35)).alloc (Obj.cells #[Value.int .i64 x0, Value.int .i64 x1, Value.slice a n c] 39)).cell? ⟨w.heap.size, 1, none⟩ = some (.slice a1 n1 c1) := by simp [go_sem]
  have j0 : ((w.alloc (Obj.cells #[Value.slice a0 n0 c0, Value.slice a1 n1 c1] 35)).alloc (Obj.cells #[Value.int .i64 x0, Value.int .i64 x1, Value.slice a n c] 39)).cell? ⟨w.heap.size + 1, 0, none⟩ = some (.int .i64 x0) := by simp [go_sem]
  have j1 : ((w.alloc (Obj.cells #[Value.slice a0 n0 c0, Value.slice a1 n1 c1] 35)).alloc (Obj.cells #[Value.int .i64 x0, Value.int .i64 x1, Value.slice a n c] 39)).cell? ⟨w.heap.size + 1, 1, none⟩ = some (.int .i64 x1) := by simp [go_sem]
  have j2 : ((w.alloc (Obj.cells #[Value.slice a0 n0 c0, Value.slice a1 n1 c1] 35)).alloc (Obj.cells #[Value.int .i64 x0, Value.int .i64 x1, Value.slice a n c] 39)).cell? ⟨w.heap.size + 1, 2, none⟩ = some (.slice a n c) := by simp [go_sem]
  have HZ := Lib.hid hz
  have HF := Lib.hid hf
  have HT := Lib.hid ht
  have HBT := Lib.hid hb
  clear hz hf ht hb
  replace hg := M0.cellAt hg
  go_enter Tryz.func10, Tryz.ntmps10
  go_wp2_with fail
  generalize ((w.alloc (Obj.cells #[Value.slice a0 n0 c0, Value.slice a1 n1 c1] 35)).alloc (Obj.cells #[Value.int .i64 x0, Value.int .i64 x1, Value.slice a n c] 39)) = WW at *
  refine (implIsAS a0 a1 n0 c0 n1 c1 r _ hn0).mono ?_
  rintro e w2 ⟨he, m2⟩
  have M2 := M0.trans m2
  cases q1 : isAsB n0 r
  · have HR := Lib.hid (show ceB n0 zA zl n1 x0 x1 hs n r i = false by unfold ceB; rw [q1]; first | done | rfl | simp)
    rw [q1] at he
    subst he
    clear q1
    go_wp2_with fail
    go_ret
    exact ⟨retB HR.out.symm, M2⟩
  · have Q1 := Lib.hid q1
    rw [q1] at he
    subst he
    clear q1
    replace k0 := m2.cellAt k0
    replace k1 := m2.cellAt k1
    replace j0 := m2.cellAt j0
    replace j1 := m2.cellAt j1
    replace j2 := m2.cellAt j2
    replace hg := m2.cellAt hg
    go_wp2_with fail
    refine (implVSeg a0 a1 n0 c0 n1 c1 B zA zl x0 x1 a n c B' hs _ (hA.mk M2 hB (.inr (Nat.le_refl _))) (hl.mk M2 hB (.inr (Nat.le_refl _))) (Nat.le_trans hB M2.size) hn0 hn1 (h.mk M2 hB' (.inr (Nat.le_refl _))) (Nat.le_trans hB' M2.size) hn HZ.out HT.out HBT.out HF.out hg).mono ?_
    rintro e w3 ⟨he, m3⟩
    have M3 := M2.trans m3
    cases q2 : vsB n0 zA zl n1 x0 x1 hs n
    · have HR := Lib.hid (show ceB n0 zA zl n1 x0 x1 hs n r i = false by unfold ceB; rw [Q1.out, q2]; first | done | rfl | simp)
      rw [q2] at he
      subst he
      clear q2
      go_wp2_with fail
      go_ret
      exact ⟨retB HR.out.symm, M3⟩
    · have Q2 := Lib.hid q2
      have hnb := vsB_n q2
      rw [q2] at he
      subst he
      clear q2
      replace k0 := m3.cellAt k0
      replace k1 := m3.cellAt k1
      replace j0 := m3.cellAt j0
      replace j1 := m3.cellAt j1
      replace j2 := m3.cellAt j2
      replace hg := m3.cellAt hg
      go_wp2_with fail
      refine (implTermd x0 x1 a n c B' hs _ (h.mk M3 hB' (.inr (Nat.le_refl _))) (Nat.le_trans hB' M3.size) hn).mono ?_
      rintro e w4 ⟨he, m4⟩
      have M4 := M3.trans m4
      cases q3 : segEnds hs n
      · have Q3 := Lib.hid q3
        rw [q3] at he
        subst he
        clear q3
        replace k0 := m4.cellAt k0
        replace k1 := m4.cellAt k1
        replace j0 := m4.cellAt j0
        replace j1 := m4.cellAt j1
        replace j2 := m4.cellAt j2
        replace hg := m4.cellAt hg
        obtain ⟨m, rfl⟩ : ∃ m, n = m + 1 := ⟨n - 1, by omega⟩
        obtain ⟨x, hx⟩ : ∃ x, Hid (x = hs.getD m default) := ⟨_, rfl⟩
        have HR0 := Lib.hid (show ceB n0 zA zl n1 x0 x1 hs (m + 1) r i = (((remote zl x.nd x.eg n1).1 == r && (remote zl x.nd x.eg n1).2 == i) && !inUp (nthI (colN THop.nd hs (m + 1))) r (m + 1)) by unfold ceB; rw [Q1.out, Q2.out, Q3.out, show m + 1 - 1 = m from rfl, ← hx.out]; simp [Bool.and_comm, Bool.and_assoc])
        clear Q1 Q2 Q3
        have hfld : ∀ w', (Instr.field 69 (Value.agg #[Value.slice a (m + 1) c, Value.int .i64 x1]) 0).run Tryz.prog w' = .ok (.slice a (m + 1) c) w' := fun _ => by kernel_rfl
        go_wp2_with fail
        refine (chainOf x0 x1 a (m + 1) c _).mono ?_
        rintro e w5 ⟨rfl, m5⟩
        have M5 := M4.trans m5
        replace k0 := m5.cellAt k0
        replace k1 := m5.cellAt k1
        replace j0 := m5.cellAt j0
        replace j1 := m5.cellAt j1
        replace j2 := m5.cellAt j2
        replace hg := m5.cellAt hg
        go_wp2_with fail
        refine (hopsLast a m c B' hs x _ (h.mk M5 hB' (.inr (Nat.le_refl _))) (Nat.le_trans hB' M5.size) hn hx.out).mono ?_
        rintro e w6 ⟨rfl, m6⟩
        have M6 := M5.trans m6
        replace k0 := m6.cellAt k0
        replace k1 := m6.cellAt k1
        replace j0 := m6.cellAt j0
        replace j1 := m6.cellAt j1
        replace j2 := m6.cellAt j2
        replace hg := m6.cellAt hg
        have MX := Mk.alloc w6 (Obj.cells #[Value.int .i64 x.nd, Value.int .i64 x.ing, Value.int .i64 x.eg, Value.int .i64 x.exp, Value.int .i64 x.mac] 61)
        have e0 : (w6.alloc (Obj.cells #[Value.int .i64 x.nd, Value.int .i64 x.ing, Value.int .i64 x.eg, Value.int .i64 x.exp, Value.int .i64 x.mac] 61)).cell? ⟨w6.heap.size, 0, none⟩ = some (.int .i64 x.nd) := by simp [go_sem]
        have e2 : (w6.alloc (Obj.cells #[Value.int .i64 x.nd, Value.int .i64 x.ing, Value.int .i64 x.eg, Value.int .i64 x.exp, Value.int .i64 x.mac] 61)).cell? ⟨w6.heap.size, 2, none⟩ = some (.int .i64 x.eg) := by simp [go_sem]
        replace k0 := MX.cellAt k0
        replace k1 := MX.cellAt k1
        replace j0 := MX.cellAt j0
        replace j1 := MX.cellAt j1
        replace j2 := MX.cellAt j2
        have M7 := M6.trans MX
        go_wp2_with fail
        refine (implRemote a0 a1 n0 c0 n1 c1 B zl x.nd x.eg _ (hl.mk M7 hB (.inr (Nat.le_refl _))) (Nat.le_trans hB M7.size) hn1).mono ?_
        rintro e w7 ⟨he, mw7⟩
        have M8 := M7.trans mw7
        replace k0 := mw7.cellAt k0
        replace k1 := mw7.cellAt k1
        replace j0 := mw7.cellAt j0
        replace j1 := mw7.cellAt j1
        replace j2 := mw7.cellAt j2
        obtain ⟨u, hu⟩ : ∃ u, Hid (u = (remote zl x.nd x.eg n1).1) := ⟨_, Lib.hid rfl⟩
        obtain ⟨v, hv⟩ : ∃ v, Hid (v = (remote zl x.nd x.eg n1).2) := ⟨_, Lib.hid rfl⟩
        rw [← hu.out, ← hv.out] at he HR0
        subst he
        cases q5 : (u == r)
        · have HR := Lib.hid (show ceB n0 zA zl n1 x0 x1 hs (m + 1) r i = false by rw [HR0.out, q5]; rfl)
          go_wp2_with fail
          go_ret
          exact ⟨retB HR.out.symm, M8⟩
        · cases q6 : (v == i)
          · have HR := Lib.hid (show ceB n0 zA zl n1 x0 x1 hs (m + 1) r i = false by rw [HR0.out, q5, q6]; rfl)
            go_wp2_with fail
            go_ret
            exact ⟨retB HR.out.symm, M8⟩
          · have HR := Lib.hid (show ceB n0 zA zl n1 x0 x1 hs (m + 1) r i = !inUp (nthI (colN THop.nd hs (m + 1))) r (m + 1) by rw [HR0.out, q5, q6]; rfl)
            clear HR0
            go_wp2_with fail
            clear q5 q6
            refine (implSegASes x0 x1 a (m + 1) c B' hs _ (h.mk M8 hB' (.inr (Nat.le_refl _))) (Nat.le_trans hB' M8.size) hn).mono ?_
            rintro e w8 ⟨A, N, C, rfl, hA2, hO, bb⟩
            have M9 := M8.trans (Mk.of_below bb)
            obtain rfl : m + 1 = N := (colN_len _ _ _).symm.trans hO.1
            have hH := hO.has
            go_wp2_with fail
            refine (contI r A (m + 1) C _ (colN THop.nd hs (m + 1)) _ hH (by omega)).mono ?_
            rintro e w' ⟨rfl, rfl⟩
            go_wp2_with fail
            go_ret
            exact ⟨retB HR.out.symm, M9⟩
      · have HR := Lib.hid (show ceB n0 zA zl n1 x0 x1 hs n r i = false by unfold ceB; rw [Q1.out, Q2.out, q3]; first | done | rfl | simp)
        rw [q3] at he
        subst he
        clear q3
        go_wp2_with fail
        go_ret
        exact ⟨retB HR.out.symm, M4⟩

end Go.Proofs.YtdhdkhnefnbdgaaGreatDoor
