
/- errors.As at an error of the package's own struct (violation), the target a variable of that struct: at nil, and at a hit. -/
import Derived.Test.YtefjbnbibmiccaaGreatDoorRow
import Derived.Test.YtefjbnbibmiccaaGreatDoorProg
import Derived.WalkKit
import Derived.LaidEql
import Derived.Stop.Asserts
import Derived.RowKitTokens
import Derived.Test.YtefjbnbibmiccaaGreatDoorVerify
import Derived.Test.YtefjbnbibmiccaaGreatDoorBetaAt
import Derived.Test.YtefjbnbibmiccaaGreatDoorVPart
import Derived.Test.YtefjbnbibmiccaaGreatDoorTurn
import Derived.Test.YtefjbnbibmiccaaGreatDoorWk
import Derived.Test.YtefjbnbibmiccaaGreatDoorModOps
import Derived.Test.YtefjbnbibmiccaaGreatDoorSeen
import Derived.Test.YtefjbnbibmiccaaGreatDoorRet
import Derived.Test.YtefjbnbibmiccaaGreatDoorMem
import Derived.Test.YtefjbnbibmiccaaGreatDoorBase
import Derived.Test.YtefjbnbibmiccaaGreatDoorRows
import Derived.Handy
import Derived.Below
import Derived.Lib.Hide
import Derived.Test.YtefjbnbibmiccaaGreatDoorSegA
import Derived.Test.YtefjbnbibmiccaaGreatDoorVHop
import Derived.Test.YtefjbnbibmiccaaGreatDoorCSegment
import Derived.Test.YtefjbnbibmiccaaGreatDoorInR
import Derived.Deep.QuietTactic
import Derived.BigQuiet
import Derived.Test.YtefjbnbibmiccaaGreatDoorSgKSM
import Derived.Test.YtefjbnbibmiccaaGreatDoorLkMore
import Derived.Test.YtefjbnbibmiccaaGreatDoorRealm
import Derived.Test.YtefjbnbibmiccaaGreatDoorSegL
namespace Go.Proofs.YtefjbnbibmiccaaGreatDoor
open Go.RowKit Go.Extern.Stop Go.Stop Go.Extern
set_option linter.unusedVariables false

/-- errors.As(nil, target). -/
theorem as_nil (t : Value) (w : World) :
    Calls Tryz.prog 64 #[.nilIface, t] w fun e w' => e = .returned (.bool false) ∧ w' = w := by
  go_enter Tryz.func64, Tryz.ntmps64
  go_wp2
  go_ret
  exact ⟨rfl, rfl⟩

theorem as_valueOfP (t : Addr) (w : World) : (ReflectliteValue.unpack (.iface 98 (.pointer (some t)))).run Tryz.prog w
    = .ok (.agg #[.pointer (some ⟨1, 98, none⟩), .pointer (some ⟨w.heap.size, 0, none⟩), .int .u64 150]) (w.alloc (.cells #[.pointer (some t)] 98)) := by kernel_rfl
theorem as_typeP (a : Addr) (w : World) : (ReflectliteValue.methodAny (ReflectliteValue.valueError "reflectlite.Value.Type" 0) (fun t _ _ _ => ReflectliteType.toType t) #[.agg #[.pointer (some ⟨1, 98, none⟩), .pointer (some a), .int .u64 150]]).run Tryz.prog w
    = .ok (.iface 131 (.agg #[.pointer (some ⟨1, 98, none⟩)])) w := by kernel_rfl
theorem as_mKind (n : Nat) (h : Value) (w : World) : (Go.method (n + 1) 131 (.agg #[h]) "Kind").run Tryz.prog w = .ok (127, h) w := by kernel_rfl
theorem as_kindP (w : World) : ((ReflectliteType.abiMethod fun t => (fun a : Nat => Value.int IntKind.u8 (a : Int)) <$> Rtype.kind t) #[.pointer (some ⟨1, 98, none⟩)]).run Tryz.prog w = .ok (.int .u8 22) w := by kernel_rfl
theorem as_kindV (w : World) : ((ReflectliteType.abiMethod fun t => (fun a : Nat => Value.int IntKind.u8 (a : Int)) <$> Rtype.kind t) #[.pointer (some ⟨1, 93, none⟩)]).run Tryz.prog w = .ok (.int .u8 25) w := by kernel_rfl
theorem as_rlm (z : Sem Value) (f : TypeId → Addr → Nat → Nat → Sem Value) (v : Value) :
    ReflectliteValue.method z f #[v] = (do match ← ReflectliteValue.parts v with | none => z | some (t, a, fl) => f t a fl (fl % 32)) := rfl
theorem as_partsP (a : Addr) (w : World) : (ReflectliteValue.parts (.agg #[.pointer (some ⟨1, 98, none⟩), .pointer (some a), .int .u64 150])).run Tryz.prog w = .ok (some (98, a, 150)) w := by kernel_rfl
theorem as_isNilP (a p : Addr) (W : World) (ha : W.cell? a = some (.pointer (some p))) :
    (ReflectliteValue.method (ReflectliteValue.valueError "reflectlite.Value.IsNil" 0) ReflectliteValue.isNil #[.agg #[.pointer (some ⟨1, 98, none⟩), .pointer (some a), .int .u64 150]]).run Tryz.prog W = .ok (.bool false) W := by
  rw [as_rlm]
  simp only [Sem.run_bind, as_partsP, Result.andThen]
  simp [ReflectliteValue.isNil, loadVar, isAgg, underlying, Tryz.underlying98, ha, Result.andThen]
theorem as_mElem (n : Nat) (h : Value) (w : World) : (Go.method (n + 1) 131 (.agg #[h]) "Elem").run Tryz.prog w = .ok (137, .agg #[h]) w := by kernel_rfl
theorem as_mImpl (n : Nat) (h : Value) (w : World) : (Go.method (n + 1) 131 (.agg #[h]) "Implements").run Tryz.prog w = .ok (138, .agg #[h]) w := by kernel_rfl
theorem as_mAsg (n : Nat) (h : Value) (w : World) : (Go.method (n + 1) 131 (.agg #[h]) "AssignableTo").run Tryz.prog w = .ok (135, .agg #[h]) w := by kernel_rfl
theorem as_elemP (w : World) : (ReflectliteType.method ReflectliteType.elem #[.agg #[.pointer (some ⟨1, 98, none⟩)]]).run Tryz.prog w = .ok (.iface 131 (.agg #[.pointer (some ⟨1, 93, none⟩)])) w := by kernel_rfl
theorem as_implV (w : World) : (ReflectliteType.relation "Implements" ReflectliteType.implements_ #[.agg #[.pointer (some ⟨1, 93, none⟩)], .iface 131 (.agg #[.pointer (some ⟨1, 96, none⟩)])]).run Tryz.prog w = .ok (.bool true) w := by kernel_rfl
theorem as_typeOfV (v : Value) (w : World) : (ReflectliteType.typeOf #[.iface 93 v]).run Tryz.prog w = .ok (.iface 131 (.agg #[.pointer (some ⟨1, 93, none⟩)])) w := by kernel_rfl
theorem as_asgV (w : World) : (ReflectliteType.relation "AssignableTo" ReflectliteType.assignableTo #[.agg #[.pointer (some ⟨1, 93, none⟩)], .iface 131 (.agg #[.pointer (some ⟨1, 93, none⟩)])]).run Tryz.prog w = .ok (.bool true) w := by kernel_rfl
theorem as_valueOfV (k : Int) (w : World) : (ReflectliteValue.unpack (.iface 93 (.agg #[.int .i64 k]))).run Tryz.prog w
    = .ok (.agg #[.pointer (some ⟨1, 93, none⟩), .pointer (some ⟨w.heap.size, 0, none⟩), .int .u64 153]) (w.alloc (.cells #[.int .i64 k] 93)) := by kernel_rfl
theorem as_elemOfP (w : World) : (Rtype.elem? 98).run Tryz.prog w = .ok (some 93) w := by kernel_rfl
theorem as_mkV (p : Addr) (w : World) : (ReflectliteValue.mk 93 p ReflectliteValue.flagAddr).run Tryz.prog w = .ok (.agg #[.pointer (some ⟨1, 93, none⟩), .pointer (some p), .int .u64 409]) w := by kernel_rfl
theorem as_elemVP (a p : Addr) (W : World) (ha : W.cell? a = some (.pointer (some p))) :
    (ReflectliteValue.method (ReflectliteValue.valueError "reflectlite.Value.Elem" 0) ReflectliteValue.elem #[.agg #[.pointer (some ⟨1, 98, none⟩), .pointer (some a), .int .u64 150]]).run Tryz.prog W
      = .ok (.agg #[.pointer (some ⟨1, 93, none⟩), .pointer (some p), .int .u64 409]) W := by
  rw [as_rlm]
  simp only [Sem.run_bind, as_partsP, Result.andThen]
  simp [ReflectliteValue.elem, loadVar, isAgg, underlying, Tryz.underlying98, ha, Result.andThen, as_elemOfP, as_mkV]
theorem as_rls (v x : Value) : ReflectliteValue.set #[v, x] = (do
    let (some (dst, a, fl), some (src, b, _)) := (← ReflectliteValue.parts v, ← ReflectliteValue.parts x)
      | unsupported (.noEntry "extern/(internal/reflectlite.Value).Set.zeroValue")
    if fl / ReflectliteValue.flagAddr % 2 == 0 then unsupported (.noEntry "extern/(internal/reflectlite.Value).Set.unaddressable")
    let val ← loadVar src b
    if ← Rtype.directlyAssignable dst src then storeVar dst a val
    else if ← Rtype.implements dst src then
      if (← Rtype.kind src) == 20 then
        match val with
        | .nilIface => unsupported (.noEntry "extern/reflectlite: a nil value of one interface type handed on as a value of another")
        | _ => storeVar dst a val
      else storeVar dst a (.iface src val)
    else panicString ("reflectlite.Set: value of type " ++ (← Rtype.spelt src) ++ " is not assignable to type " ++ (← Rtype.spelt dst))
    pure (.tuple #[])) := rfl
theorem as_partsVa (a : Addr) (w : World) : (ReflectliteValue.parts (.agg #[.pointer (some ⟨1, 93, none⟩), .pointer (some a), .int .u64 409])).run Tryz.prog w = .ok (some (93, a, 409)) w := by kernel_rfl
theorem as_partsV (a : Addr) (w : World) : (ReflectliteValue.parts (.agg #[.pointer (some ⟨1, 93, none⟩), .pointer (some a), .int .u64 153])).run Tryz.prog w = .ok (some (93, a, 153)) w := by kernel_rfl
theorem as_directV (w : World) : (Rtype.directlyAssignable 93 93).run Tryz.prog w = .ok true w := by kernel_rfl
theorem as_loadV (b : Addr) (k : Int) (W : World) (hb : W.cell? b = some (.int .i64 k)) : (loadVar 93 b).run Tryz.prog W = .ok (.agg #[.int .i64 k]) W := by
  have hs : (sizeOf 93).run Tryz.prog W = .ok 1 W := by kernel_rfl
  have hl : (loadCells b 1).run Tryz.prog W = .ok #[.int .i64 k] W := run_loadCells_list W b [.int .i64 k] (fun j v hj => by
    match j, hj with
    | 0, hj =>
      obtain rfl : v = .int .i64 k := (Option.some.inj hj).symm
      simpa [Addr.add] using hb)
  simp [loadVar, isAgg, underlying, Tryz.underlying93, hs, hl, Result.andThen]
theorem as_setV (ta b : Addr) (k : Int) (old : Value) (W : World) (hb : W.cell? b = some (.int .i64 k)) (ht : W.cell? ta = some old) (hf : W.frozen? ta = false) :
    (ReflectliteValue.set #[.agg #[.pointer (some ⟨1, 93, none⟩), .pointer (some ta), .int .u64 409], .agg #[.pointer (some ⟨1, 93, none⟩), .pointer (some b), .int .u64 153]]).run Tryz.prog W
      = .ok (.tuple #[]) (W.setCell ta (.int .i64 k)) := by
  rw [as_rls]
  simp only [Sem.run_bind, as_partsVa, as_partsV, Result.andThen]
  simp [ReflectliteValue.flagAddr, as_loadV b k W hb, Result.andThen, as_directV, storeVar, Value.cells, storeCells, Addr.add]
  rw [run_store Tryz.prog W ta _ _ (by rfl)]
  simp [ht, hf]

set_option maxRecDepth 100000 in
set_option maxHeartbeats 4000000 in
/-- errors.As at a violation: true; the variable takes it. -/
theorem as_hit (k : Int) (t : Addr) (old : Value) (w : World) (hg : w.cell? ⟨0, 0, none⟩ = some (.iface 131 (.agg #[.pointer (some ⟨1, 96, none⟩)]))) (ht0 : w.cell? t = some old) (hf0 : w.frozen? t = false) :
    Calls Tryz.prog 64 #[.iface 93 (.agg #[.int .i64 k]), .iface 98 (.pointer (some t))] w fun ev w' => ev = .returned (.bool true) ∧ w' = ((((w.alloc (.cells #[.pointer (some t)] 98)).alloc (.cells #[.pointer (some ⟨1, 98, none⟩), .pointer (some ⟨w.heap.size, 0, none⟩), .int .u64 150] 117)).alloc (.cells #[.pointer (some ⟨1, 98, none⟩), .pointer (some ⟨w.heap.size, 0, none⟩), .int .u64 150] 117)).alloc (.cells #[.int .i64 k] 93)).setCell t (.int .i64 k) := by
  have ha := @run_callFunc_extern Tryz.prog 87 _ (fun args => ReflectliteValue.unpack (args.getD 0 (.tuple #[]))) Tryz.func87 (by kernel_rfl) (by kernel_rfl) (by kernel_rfl) (by kernel_rfl)
  have hb := @run_callFunc_extern Tryz.prog 88 _ (ReflectliteValue.methodAny (ReflectliteValue.valueError "reflectlite.Value.Type" 0) (fun t _ _ _ => ReflectliteType.toType t)) Tryz.func88 (by kernel_rfl) (by kernel_rfl) (by kernel_rfl) (by kernel_rfl)
  have hc := @run_callFunc_extern Tryz.prog 89 _ (ReflectliteValue.method (ReflectliteValue.valueError "reflectlite.Value.IsNil" 0) ReflectliteValue.isNil) Tryz.func89 (by kernel_rfl) (by kernel_rfl) (by kernel_rfl) (by kernel_rfl)
  have hd := @run_callFunc_extern Tryz.prog 127 _ (ReflectliteType.abiMethod fun t => do pure (.int .u8 (← Rtype.kind t))) Tryz.func127 (by kernel_rfl) (by kernel_rfl) (by kernel_rfl) (by kernel_rfl)
  have he := @run_callFunc_extern Tryz.prog 137 _ (ReflectliteType.method ReflectliteType.elem) Tryz.func137 (by kernel_rfl) (by kernel_rfl) (by kernel_rfl) (by kernel_rfl)
  have hf := @run_callFunc_extern Tryz.prog 138 _ (ReflectliteType.relation "Implements" ReflectliteType.implements_) Tryz.func138 (by kernel_rfl) (by kernel_rfl) (by kernel_rfl) (by kernel_rfl)
  have hi := @run_callFunc_extern Tryz.prog 97 _ (ReflectliteType.typeOf) Tryz.func97 (by kernel_rfl) (by kernel_rfl) (by kernel_rfl) (by kernel_rfl)
  have hj := @run_callFunc_extern Tryz.prog 135 _ (ReflectliteType.relation "AssignableTo" ReflectliteType.assignableTo) Tryz.func135 (by kernel_rfl) (by kernel_rfl) (by kernel_rfl) (by kernel_rfl)
  have hk := @run_callFunc_extern Tryz.prog 98 _ (ReflectliteValue.method (ReflectliteValue.valueError "reflectlite.Value.Elem" 0) ReflectliteValue.elem) Tryz.func98 (by kernel_rfl) (by kernel_rfl) (by kernel_rfl) (by kernel_rfl)
  have hl := @run_callFunc_extern Tryz.prog 99 _ (ReflectliteValue.set) Tryz.func99 (by kernel_rfl) (by kernel_rfl) (by kernel_rfl) (by kernel_rfl)
  have q1 := as_typeOfV
  have q2 := as_mAsg
  have q3 := as_asgV
  have q4 := as_valueOfV
  have q5 := as_valueOfP
  have q6 := as_typeP
  have q7 := as_mKind
  have q8 := as_mElem
  have q9 := as_mImpl
  have p1 := as_kindP
  have p2 := as_kindV
  have p3 := as_elemP
  have p4 := as_implV
  have n8 := as_isNilP ⟨w.heap.size, 0, none⟩ t ((w.alloc (.cells #[.pointer (some t)] 98)).alloc (.cells #[.pointer (some ⟨1, 98, none⟩), .pointer (some ⟨w.heap.size, 0, none⟩), .int .u64 150] 117)) (by simp)
  have hlt := World.block_lt_of_cell? _ _ hg
  simp only at hlt
  have hg2 : ((w.alloc (.cells #[.pointer (some t)] 98)).alloc (.cells #[.pointer (some ⟨1, 98, none⟩), .pointer (some ⟨w.heap.size, 0, none⟩), .int .u64 150] 117)).cell? ⟨0, 0, none⟩ = some (.iface 131 (.agg #[.pointer (some ⟨1, 96, none⟩)])) := by
    rw [World.cell?_alloc_lt _ _ ⟨0, 0, none⟩ (by simp only [World.size_alloc]; omega), World.cell?_alloc_lt _ _ ⟨0, 0, none⟩ hlt]; exact hg
  have htl := World.block_lt_of_cell? _ _ ht0
  have el := as_elemVP ⟨w.heap.size, 0, none⟩ t (((w.alloc (.cells #[.pointer (some t)] 98)).alloc (.cells #[.pointer (some ⟨1, 98, none⟩), .pointer (some ⟨w.heap.size, 0, none⟩), .int .u64 150] 117)).alloc (.cells #[.pointer (some ⟨1, 98, none⟩), .pointer (some ⟨w.heap.size, 0, none⟩), .int .u64 150] 117)) (by rw [World.cell?_alloc_lt _ _ ⟨w.heap.size, 0, none⟩ (by simp; omega)]; simp)
  have st := as_setV t ⟨w.heap.size + 1 + 1 + 1, 0, none⟩ k old ((((w.alloc (.cells #[.pointer (some t)] 98)).alloc (.cells #[.pointer (some ⟨1, 98, none⟩), .pointer (some ⟨w.heap.size, 0, none⟩), .int .u64 150] 117)).alloc (.cells #[.pointer (some ⟨1, 98, none⟩), .pointer (some ⟨w.heap.size, 0, none⟩), .int .u64 150] 117)).alloc (.cells #[.int .i64 k] 93))
    (by rw [World.cell?_alloc_at _ _ _ _ (by simp)]; rfl)
    (by rw [World.cell?_alloc_lt _ _ t (by simp; omega), World.cell?_alloc_lt _ _ t (by simp; omega), World.cell?_alloc_lt _ _ t (by simp; omega), World.cell?_alloc_lt _ _ t htl]; exact ht0)
    (by rw [World.frozen?_alloc_old _ _ t (by simp; omega), World.frozen?_alloc_old _ _ t (by simp; omega), World.frozen?_alloc_old _ _ t (by simp; omega), World.frozen?_alloc_old _ _ t (Nat.ne_of_lt htl)]; exact hf0)
  go_enter Tryz.func64, Tryz.ntmps64
  go_wp2
  refine wp_loop_rounds 1 ?_
  rw [rounds_succ]
  go_wp2
  go_ret
  exact ⟨rfl, rfl⟩
end Go.Proofs.YtefjbnbibmiccaaGreatDoor
namespace Go.Proofs.YtefjbnbibmiccaaGreatDoor
open Go.ChangeShapes Go.WideShapes Go.ChangeAt Go.RowKit
set_option linter.unusedVariables false
def bUp (b : Int) (hs : List THop) : Nat → Int
  | 0 => b
  | k + 1 => addM (bUp b hs k) (hs.getD k default).mac
theorem chN_congr {b : Int} {xs ys : List Int} : ∀ k, (∀ j, j < k → xs.getD j 0 = ys.getD j 0) → chN b xs k = chN b ys k
  | 0, _ => rfl
  | k + 1, h => by rw [chN, chN, h k (by omega), chN_congr k fun j hj => h j (by omega)]
theorem chN_bUp (b : Int) (hs : List THop) (q : Nat) : ∀ k, k ≤ q → chN b (colN THop.mac hs q) k = bUp b hs k
  | 0, _ => rfl
  | k + 1, h => by rw [chN, chN_bUp b hs q k (by omega), colN_get _ _ _ _ (by omega)]; rfl
theorem betaV_bUp {b : Int} {hs : List THop} {n q : Nat} (h : q ≤ n) : betaV b hs n (q : Int) = bUp b hs q := by
  rw [betaV_in h, chN_bUp _ _ _ _ (Nat.le_refl _)]
theorem bUp_fits {b : Int} (hb : (Lit.int .i64 b).wf = true) (hs : List THop) : ∀ k, (Lit.int .i64 (bUp b hs k)).wf = true
  | 0 => hb
  | k + 1 => addM_fits _ _
/-- Whether hop k verifies. -/
def vAt (zA : List TAS) (n0 : Nat) (t b : Int) (hs : List THop) (k : Nat) : Bool := vhB zA n0 t (bUp b hs k) (hs.getD k default).nd (hs.getD k default).ing (hs.getD k default).eg (hs.getD k default).exp (hs.getD k default).mac
theorem infoBool : (Tryz.prog.info? 4).map (fun i => (i.zero, i.size, i.bytes)) = some (some (.bool false), 1, 1) := by kernel_rfl
def OutBools (w : World) (n : Nat) (f : Nat → Bool) (e : Ending) (w' : World) : Prop :=
  ∃ g, e = .returned (.slice (some ⟨g, 0, none⟩) n n) ∧ (∀ j, j < n → w'.cell? ⟨g, j, none⟩ = some (.bool (f j))) ∧ Mk0 w w'
set_option maxRecDepth 100000 in
set_option maxHeartbeats 4000000 in
theorem implVHops (a0 a1 : Option Addr) (n0 c0 n1 c1 B : Nat) (zA : List TAS) (x0 x1 : Int) (a : Option Addr) (n c B' : Nat) (hs : List THop) (w : World) (hA : HasAS w B a0 n0 zA) (hB : B ≤ w.heap.size) (hn0 : n0 ≤ 1048576) (h : HasHop w B' a n hs) (hB' : B' ≤ w.heap.size) (hn : n ≤ 1048576) (hz : ∀ y ∈ zA, TAS.fits y) (ht : (Lit.int .i64 x0).wf = true) (hb : (Lit.int .i64 x1).wf = true) (hf : ∀ y ∈ hs, THop.fits y) :
    Calls Tryz.prog 91 #[.agg #[.slice a0 n0 c0, .slice a1 n1 c1], .agg #[.int .i64 x0, .int .i64 x1, .slice a n c]] w (OutBools w n (vAt zA n0 x0 x1 hs)) := by
  obtain ⟨i0, hi, hz0, hz1, hz2⟩ := info_parts infoBool
  have hu := Tryz.underlying127
  have M0 := (Mk.alloc w (Obj.cells #[Value.slice a0 n0 c0, Value.slice a1 n1 c1] 35)).new (Obj.cells #[Value.int .i64 x0, Value.int .i64 x1, Value.slice a n c] 39)
  have k0 : ((w.alloc (Obj.cells #[Value.slice a0 n0 c0, Value.slice a1 n1 c1] 35)).alloc (Obj.cells #[Value.int .i64 x0, Value.int .i64 x1, Value.slice a n c] 39)).cell? ⟨w.heap.size, 0, none⟩ = some (.slice a0 n0 c0) := by simp [go_sem]
  have k1 : ((w.alloc (Obj.cells #[Value.slice a0 n0 c0, Value.slice a1 n1 c1] 35)).alloc (Obj.cells #[Value.int .i64 x0, Value.int .i64 x1, Value.slice a n c] 39)).cell? ⟨w.heap.size, 1, none⟩ = some (.slice a1 n1 c1) := by simp [go_sem]
  have j0 : ((w.alloc (Obj.cells #[Value.slice a0 n0 c0, Value.slice a1 n1 c1] 35)).alloc (Obj.cells #[Value.int .i64 x0, Value.int .i64 x1, Value.slice a n c] 39)).cell? ⟨w.heap.size + 1, 0, none⟩ = some (.int .i64 x0) := by simp [go_sem]
  have j1 : ((w.alloc (Obj.cells #[Value.slice a0 n0 c0, Value.slice a1 n1 c1] 35)).alloc (Obj.cells #[Value.int .i64 x0, Value.int .i64 x1, Value.slice a n c] 39)).cell? ⟨w.heap.size + 1, 1, none⟩ = some (.int .i64 x1) := by simp [go_sem]
  have j2 : ((w.alloc (Obj.cells #[Value.slice a0 n0 c0, Value.slice a1 n1 c1] 35)).alloc (Obj.cells #[Value.int .i64 x0, Value.int .i64 x1, Value.slice a n c] 39)).cell? ⟨w.heap.size + 1, 2, none⟩ = some (.slice a n c) := by simp [go_sem]
  have HZ := Lib.hid hz
  have HFF := Lib.hid hf
  have HBF := Lib.hid (bUp_fits hb hs)
  have HTF := Lib.hid ht
  clear hz hf hb ht
  go_enter Tryz.func91, Tryz.ntmps91
  have hs2 : ((w.alloc (Obj.cells #[Value.slice a0 n0 c0, Value.slice a1 n1 c1] 35)).alloc (Obj.cells #[Value.int .i64 x0, Value.int .i64 x1, Value.slice a n c] 39)).heap.size = w.heap.size + 1 + 1 := by rw [World.size_alloc, World.size_alloc]
  go_wp2_with (with_reducible refine wpList_make_full ((w.alloc (Obj.cells #[Value.slice a0 n0 c0, Value.slice a1 n1 c1] 35)).alloc (Obj.cells #[Value.int .i64 x0, Value.int .i64 x1, Value.slice a n c] 39)) rfl (.tmp 11) (.tmp 11) 127 rfl ((w.alloc (Obj.cells #[Value.slice a0 n0 c0, Value.slice a1 n1 c1] 35)).alloc (Obj.cells #[Value.int .i64 x0, Value.int .i64 x1, Value.slice a n c] 39)).heap.size 4 i0 (.bool false) 1 hu hi hz0 hz1 .i64 .i64 n n n rfl rfl rfl rfl (by rw [hz2]; omega) (by unfold maxLen; omega) (Nat.le_refl _) ?_; intro w1 hown hgr; have hF := (ownsRow_fillR hown (fun _ => undef)).toP (g := fun j => .bool (vAt zA n0 x0 x1 hs j)); have m1 : Mk0 ((w.alloc (Obj.cells #[Value.slice a0 n0 c0, Value.slice a1 n1 c1] 35)).alloc (Obj.cells #[Value.int .i64 x0, Value.int .i64 x1, Value.slice a n c] 39)) w1 := Mk.of_below ((Below.refl _ _).grown hgr (Nat.le_refl _) (fun k hk => by cases hk)); have hg1 := (hown.lt _ rfl).2; rw [Nat.mul_one] at hF; clear hown hgr hu; rw [hs2] at hF hg1; have M1 := M0.trans m1; replace k0 := m1.cellAt k0; replace k1 := m1.cellAt k1; replace j0 := m1.cellAt j0; replace j1 := m1.cellAt j1; replace j2 := m1.cellAt j2)
  go_loopw [6, 18] (fun v i wr => ∃ k : Nat, k ≤ n ∧ i = .int .i64 k ∧ v = .int .i64 (bUp x1 hs k) ∧ FillP wr (w.heap.size + 1 + 1) n (fun j => j < k) (fun j => .bool (vAt zA n0 x0 x1 hs j)) ∧ Mk (w.heap.size + 1 + 1) ((w.heap.size + 1 + 1) + 1) w1 wr ∧ Mk0 w wr ∧ (w.heap.size + 1 + 1) < wr.heap.size) (fun _ i _ => n - (intOf i).toNat)
  case atStart => exact ⟨0, Nat.zero_le _, rfl, rfl, hF.mono (fun j hj hq => by omega), Mk.refl _ _ _, M1, hg1⟩
  case round =>
    clear hF
    obtain ⟨k, hk, rfl, rfl, hF, hM, hM', hszr⟩ := hrel
    replace k0 := hM.cellAtR k0 (by omega)
    replace k1 := hM.cellAtR k1 (by omega)
    replace j0 := hM.cellAtR j0 (by omega)
    replace j1 := hM.cellAtR j1 (by omega)
    replace j2 := hM.cellAtR j2 (by omega)
    by_cases hlt : k < n
    · obtain ⟨b, off, x, eb, hb2, hx, d0, d1, d2, d3, d4⟩ := HasHop.at _ _ _ _ _ _ (h.mk hM' hB' (.inr (Nat.le_refl _))) hlt
      subst eb
      have hbr := World.block_lt_of_cell? _ _ d0
      have hbq := World.block_lt_of_cell? _ _ k0
      have hbj := World.block_lt_of_cell? _ _ j0
      simp only at hbr hbq hbj
      have i1 : (0 : Int) ≤ (k : Int) := by omega
      have i2 : (k : Int) < (n : Int) := by omega
      have MX := Mk.alloc wr (Obj.cells #[Value.int .i64 x.nd, Value.int .i64 x.ing, Value.int .i64 x.eg, Value.int .i64 x.exp, Value.int .i64 x.mac] 67)
      have q0 : (wr.alloc (Obj.cells #[Value.int .i64 x.nd, Value.int .i64 x.ing, Value.int .i64 x.eg, Value.int .i64 x.exp, Value.int .i64 x.mac] 67)).cell? ⟨wr.heap.size, 0, none⟩ = some (.int .i64 x.nd) := by simp [go_sem]
      have q1 : (wr.alloc (Obj.cells #[Value.int .i64 x.nd, Value.int .i64 x.ing, Value.int .i64 x.eg, Value.int .i64 x.exp, Value.int .i64 x.mac] 67)).cell? ⟨wr.heap.size, 1, none⟩ = some (.int .i64 x.ing) := by simp [go_sem]
      have q2 : (wr.alloc (Obj.cells #[Value.int .i64 x.nd, Value.int .i64 x.ing, Value.int .i64 x.eg, Value.int .i64 x.exp, Value.int .i64 x.mac] 67)).cell? ⟨wr.heap.size, 2, none⟩ = some (.int .i64 x.eg) := by simp [go_sem]
      have q3 : (wr.alloc (Obj.cells #[Value.int .i64 x.nd, Value.int .i64 x.ing, Value.int .i64 x.eg, Value.int .i64 x.exp, Value.int .i64 x.mac] 67)).cell? ⟨wr.heap.size, 3, none⟩ = some (.int .i64 x.exp) := by simp [go_sem]
      have q4 : (wr.alloc (Obj.cells #[Value.int .i64 x.nd, Value.int .i64 x.ing, Value.int .i64 x.eg, Value.int .i64 x.exp, Value.int .i64 x.mac] 67)).cell? ⟨wr.heap.size, 4, none⟩ = some (.int .i64 x.mac) := by simp [go_sem]
      replace k0 := MX.cellAt k0
      replace k1 := MX.cellAt k1
      replace j0 := MX.cellAt j0
      replace j1 := MX.cellAt j1
      replace j2 := MX.cellAt j2
      have MR := hM'.trans MX
      have HXF := Lib.hid (hopL_fits HTF.out (HBF.out k) (hopfit h.1 hlt HFF.out hx.out))
      obtain ⟨V, hV⟩ : ∃ V, Hid (V = vAt zA n0 x0 x1 hs k) := ⟨_, Lib.hid rfl⟩
      have HV := Lib.hid (show vhB zA n0 x0 (bUp x1 hs k) x.nd x.ing x.eg x.exp x.mac = V by rw [hV.out]; unfold vAt; rw [← hx.out])
      obtain ⟨β, hβ⟩ : ∃ β, Hid (β = bUp x1 hs k) := ⟨_, Lib.hid rfl⟩
      rw [← hβ.out] at HXF HV ⊢
      have HN := Lib.hid (show bUp x1 hs (k + 1) = addM β x.mac by rw [bUp, ← hβ.out, ← hx.out])
      go_wp2_with fail
      refine (implVerify a0 a1 n0 c0 n1 c1 B zA x0 β x.nd x.ing x.eg x.exp x.mac _ (hA.mk MR hB (.inr (Nat.le_refl _))) (Nat.le_trans hB MR.size) hn0 HZ.out HXF.out).mono ?_
      rintro e w3 ⟨he, m3⟩
      rw [HV.out] at he
      subst he
      replace k0 := m3.cellAt k0
      replace k1 := m3.cellAt k1
      replace j0 := m3.cellAt j0
      replace j1 := m3.cellAt j1
      replace j2 := m3.cellAt j2
      replace q0 := m3.cellAt q0
      replace q1 := m3.cellAt q1
      replace q2 := m3.cellAt q2
      replace q3 := m3.cellAt q3
      replace q4 := m3.cellAt q4
      have hF2 := hF.keep (MX.trans m3)
      obtain ⟨u, p, fr⟩ := hF2.any hlt
      have hbE := World.block_lt_of_cell? _ _ q0
      have hbP := World.block_lt_of_cell? _ _ p
      simp only at hbE hbP
      have hne : (w.heap.size + 1 + 1) ≠ wr.heap.size := by omega
      have hs3 := (MX.trans m3).size
      go_wp2_with fail
      refine (implAddMod β x.mac _).mono ?_
      rintro e w' ⟨rfl, rfl⟩
      go_wp2_with fail
      go_roundw
      case rel => exact ⟨k + 1, by omega, by go_num, congrArg (Value.int .i64) HN.out.symm, (hF2.set hlt (by rw [hV.out])).mono (fun j hj hq => by omega), ((hM.trans ((MX.trans m3).wide (.inl (Nat.le_refl _)))).putR _ _ (Nat.le_refl _) (Nat.lt_succ_self _)), (hM'.trans (MX.trans m3)).put _ _ (by show w.heap.size ≤ (w.heap.size + 1 + 1); omega), by simp only [World.size_set]; omega⟩
      case measure => simp [intOf]; omega
    · obtain rfl : k = n := by omega
      go_wp2_with fail
      go_ret
      exact ⟨_, rfl, fun j hj => by obtain ⟨v, h1, _, h3⟩ := hF j hj; rw [h1, h3 hj], hM'⟩

end Go.Proofs.YtefjbnbibmiccaaGreatDoor
namespace Go.Proofs.YtefjbnbibmiccaaGreatDoor
open Go.ChangeShapes Go.WideShapes Go.ChangeAt Go.RowKit
set_option linter.unusedVariables false
/-- The first of n numbers that meets p, else -1. -/
def fiN (p : Nat → Bool) (n : Nat) : Nat → Int
  | 0 => -1
  | m + 1 => if p (n - (m + 1)) = true then ((n - (m + 1) : Nat) : Int) else fiN p n m
theorem fiN_stop {p : Nat → Bool} {n k : Nat} (hk : k < n) (h : p k = true) : fiN p n (n - k) = (k : Int) := by
  obtain ⟨m, hm⟩ : ∃ m, n - k = m + 1 := ⟨n - k - 1, by omega⟩
  rw [hm, fiN, show n - (m + 1) = k by omega, if_pos h]
theorem fiN_go {p : Nat → Bool} {n k : Nat} (hk : k < n) (h : p k = false) : fiN p n (n - k) = fiN p n (n - (k + 1)) := by
  obtain ⟨m, hm⟩ : ∃ m, n - k = m + 1 := ⟨n - k - 1, by omega⟩
  rw [hm, fiN, show n - (m + 1) = k by omega, if_neg (by rw [h]; decide), show n - (k + 1) = m by omega]
theorem fiN_ge (p : Nat → Bool) (n : Nat) : ∀ m, -1 ≤ fiN p n m
  | 0 => by simp [fiN]
  | m + 1 => by
    rw [fiN]
    split
    · omega
    · exact fiN_ge p n m
/-- Hop k does not verify. -/
def badH (zA : List TAS) (n0 : Nat) (t b : Int) (hs : List THop) (k : Nat) : Bool := !vAt zA n0 t b hs k
def fiV (zA : List TAS) (n0 : Nat) (t b : Int) (hs : List THop) (n : Nat) : Int := fiN (badH zA n0 t b hs) n n
def errOf (v : Int) : Value := if v < 0 then .nilIface else .iface 93 (.agg #[.int .i64 v])
set_option maxRecDepth 100000 in
set_option maxHeartbeats 4000000 in
theorem implCheck (a0 a1 : Option Addr) (n0 c0 n1 c1 B : Nat) (zA : List TAS) (x0 x1 : Int) (a : Option Addr) (n c B' : Nat) (hs : List THop) (w : World) (hA : HasAS w B a0 n0 zA) (hB : B ≤ w.heap.size) (hn0 : n0 ≤ 1048576) (h : HasHop w B' a n hs) (hB' : B' ≤ w.heap.size) (hn : n ≤ 1048576) (hz : ∀ y ∈ zA, TAS.fits y) (ht : (Lit.int .i64 x0).wf = true) (hb : (Lit.int .i64 x1).wf = true) (hf : ∀ y ∈ hs, THop.fits y) :
    Calls Tryz.prog 65 #[.agg #[.slice a0 n0 c0, .slice a1 n1 c1], .agg #[.int .i64 x0, .int .i64 x1, .slice a n c]] w fun e w' => e = .returned (errOf (fiV zA n0 x0 x1 hs n)) ∧ Mk0 w w' := by
  have M0 := (Mk.alloc w (Obj.cells #[Value.slice a0 n0 c0, Value.slice a1 n1 c1] 35)).new (Obj.cells #[Value.int .i64 x0, Value.int .i64 x1, Value.slice a n c] 39)
  have k0 : ((w.alloc (Obj.cells #[Value.slice a0 n0 c0, Value.slice a1 n1 c1] 35)).alloc (Obj.cells #[Value.int .i64 x0, Value.int .i64 x1, Value.slice a n c] 39)).cell? ⟨w.heap.size, 0, none⟩ = some (.slice a0 n0 c0) := by simp [go_sem]
  have k1 : ((w.alloc (Obj.cells #[Value.slice a0 n0 c0, Value.slice a1 n1 c1] 35)).alloc (Obj.cells #[Value.int .i64 x0, Value.int .i64 x1, Value.slice a n c] 39)).cell? ⟨w.heap.size, 1, none⟩ = some (.slice a1 n1 c1) := by simp [go_sem]
  have j0 : ((w.alloc (Obj.cells #[Value.slice a0 n0 c0, Value.slice a1 n1 c1] 35)).alloc (Obj.cells #[Value.int .i64 x0, Value.int .i64 x1, Value.slice a n c] 39)).cell? ⟨w.heap.size + 1, 0, none⟩ = some (.int .i64 x0) := by simp [go_sem]
  have j1 : ((w.alloc (Obj.cells #[Value.slice a0 n0 c0, Value.slice a1 n1 c1] 35)).alloc (Obj.cells #[Value.int .i64 x0, Value.int .i64 x1, Value.slice a n c] 39)).cell? ⟨w.heap.size + 1, 1, none⟩ = some (.int .i64 x1) := by simp [go_sem]
  have j2 : ((w.alloc (Obj.cells #[Value.slice a0 n0 c0, Value.slice a1 n1 c1] 35)).alloc (Obj.cells #[Value.int .i64 x0, Value.int .i64 x1, Value.slice a n c] 39)).cell? ⟨w.heap.size + 1, 2, none⟩ = some (.slice a n c) := by simp [go_sem]
  go_enter Tryz.func65, Tryz.ntmps65
  go_wp2_with fail
  refine (implVHops a0 a1 n0 c0 n1 c1 B zA x0 x1 a n c B' hs _ (hA.mk M0 hB (.inr (Nat.le_refl _))) (Nat.le_trans hB M0.size) hn0 (h.mk M0 hB' (.inr (Nat.le_refl _))) (Nat.le_trans hB' M0.size) hn hz ht hb hf).mono ?_
  rintro e w2 ⟨g, rfl, hc, m2⟩
  have M2 := M0.trans m2
  have HC := Lib.hid hc
  clear hc hz ht hb hf
  go_wp2_with fail
  go_loopw [4, 11] (fun rr i wr => rr = .nilIface ∧ ∃ k : Nat, k ≤ n ∧ i = .int .i64 k ∧ Hid (fiV zA n0 x0 x1 hs n = fiN (badH zA n0 x0 x1 hs) n (n - k)) ∧ Mk0 w2 wr) (fun _ i _ => n - (intOf i).toNat)
  case atStart => exact ⟨rfl, 0, Nat.zero_le _, rfl, rfl, Mk.refl _ _ _⟩
  case round =>
    obtain ⟨rfl, k, hk, rfl, hS, hM⟩ := hrel
    have hM' := M2.trans hM
    by_cases hlt : k < n
    · have cv := hM.cellAt (HC.out k hlt)
      have i1 : (0 : Int) ≤ (k : Int) := by omega
      have i2 : (k : Int) < (n : Int) := by omega
      obtain ⟨V, hV⟩ : ∃ V, Hid (V = vAt zA n0 x0 x1 hs k) := ⟨_, Lib.hid rfl⟩
      rw [← hV.out] at cv
      cases hv : V
      · rw [hv] at cv hV
        have HV2 := Lib.hid hV.out.symm
        have HE := Lib.hid (show fiV zA n0 x0 x1 hs n = (k : Int) by rw [hS.out]; exact fiN_stop hlt (by unfold badH; rw [HV2.out]; rfl))
        clear hv hV
        go_wp2_with fail
        go_ret
        exact ⟨congrArg _ (by rw [HE.out]; unfold errOf; rw [if_neg (by omega)]; rfl), hM'⟩
      · rw [hv] at cv hV
        have HV2 := Lib.hid hV.out.symm
        have HE := Lib.hid (show fiV zA n0 x0 x1 hs n = fiN (badH zA n0 x0 x1 hs) n (n - (k + 1)) by rw [hS.out]; exact fiN_go hlt (by unfold badH; rw [HV2.out]; rfl))
        clear hv hV
        go_wp2_with fail
        go_roundw
        case rel => exact ⟨rfl, k + 1, by omega, by go_num, HE.out, hM⟩
        case measure => simp [intOf]; omega
    · obtain rfl : k = n := by omega
      go_wp2_with fail
      go_ret
      exact ⟨congrArg _ (by rw [hS.out, Nat.sub_self]; rfl), hM'⟩

set_option maxRecDepth 100000 in
set_option maxHeartbeats 4000000 in
theorem implFInv (a0 a1 : Option Addr) (n0 c0 n1 c1 B : Nat) (zA : List TAS) (x0 x1 : Int) (a : Option Addr) (n c B' : Nat) (hs : List THop) (w : World) (hA : HasAS w B a0 n0 zA) (hB : B ≤ w.heap.size) (hn0 : n0 ≤ 1048576) (h : HasHop w B' a n hs) (hB' : B' ≤ w.heap.size) (hn : n ≤ 1048576) (hz : ∀ y ∈ zA, TAS.fits y) (ht : (Lit.int .i64 x0).wf = true) (hb : (Lit.int .i64 x1).wf = true) (hf : ∀ y ∈ hs, THop.fits y) (hg : w.cell? ⟨0, 0, none⟩ = some (.iface 131 (.agg #[.pointer (some ⟨1, 96, none⟩)]))) :
    Calls Tryz.prog 30 #[.agg #[.slice a0 n0 c0, .slice a1 n1 c1], .agg #[.int .i64 x0, .int .i64 x1, .slice a n c]] w fun e w' => e = .returned (.int .i64 (fiV zA n0 x0 x1 hs n)) ∧ Mk0 w w' := by
  have M0 := ((Mk.alloc w (Obj.cells #[Value.slice a0 n0 c0, Value.slice a1 n1 c1] 35)).new (Obj.cells #[Value.int .i64 x0, Value.int .i64 x1, Value.slice a n c] 39)).new (Obj.cells #[Value.int .i64 0] 93)
  have k0 : (((w.alloc (Obj.cells #[Value.slice a0 n0 c0, Value.slice a1 n1 c1] 35)).alloc (Obj.cells #[Value.int .i64 x0, Value.int .i64 x1, Value.slice a n c] 39)).alloc (Obj.cells #[Value.int .i64 0] 93)).cell? ⟨w.heap.size, 0, none⟩ = some (.slice a0 n0 c0) := by simp [go_sem]
  have k1 : (((w.alloc (Obj.cells #[Value.slice a0 n0 c0, Value.slice a1 n1 c1] 35)).alloc (Obj.cells #[Value.int .i64 x0, Value.int .i64 x1, Value.slice a n c] 39)).alloc (Obj.cells #[Value.int .i64 0] 93)).cell? ⟨w.heap.size, 1, none⟩ = some (.slice a1 n1 c1) := by simp [go_sem]
  have j0 : (((w.alloc (Obj.cells #[Value.slice a0 n0 c0, Value.slice a1 n1 c1] 35)).alloc (Obj.cells #[Value.int .i64 x0, Value.int .i64 x1, Value.slice a n c] 39)).alloc (Obj.cells #[Value.int .i64 0] 93)).cell? ⟨w.heap.size + 1, 0, none⟩ = some (.int .i64 x0) := by simp [go_sem]
  have j1 : (((w.alloc (Obj.cells #[Value.slice a0 n0 c0, Value.slice a1 n1 c1] 35)).alloc (Obj.cells #[Value.int .i64 x0, Value.int .i64 x1, Value.slice a n c] 39)).alloc (Obj.cells #[Value.int .i64 0] 93)).cell? ⟨w.heap.size + 1, 1, none⟩ = some (.int .i64 x1) := by simp [go_sem]
  have j2 : (((w.alloc (Obj.cells #[Value.slice a0 n0 c0, Value.slice a1 n1 c1] 35)).alloc (Obj.cells #[Value.int .i64 x0, Value.int .i64 x1, Value.slice a n c] 39)).alloc (Obj.cells #[Value.int .i64 0] 93)).cell? ⟨w.heap.size + 1, 2, none⟩ = some (.slice a n c) := by simp [go_sem]
  have v0 : (((w.alloc (Obj.cells #[Value.slice a0 n0 c0, Value.slice a1 n1 c1] 35)).alloc (Obj.cells #[Value.int .i64 x0, Value.int .i64 x1, Value.slice a n c] 39)).alloc (Obj.cells #[Value.int .i64 0] 93)).cell? ⟨w.heap.size + 1 + 1, 0, none⟩ = some (.int .i64 0) := by simp [go_sem]
  have fv : (((w.alloc (Obj.cells #[Value.slice a0 n0 c0, Value.slice a1 n1 c1] 35)).alloc (Obj.cells #[Value.int .i64 x0, Value.int .i64 x1, Value.slice a n c] 39)).alloc (Obj.cells #[Value.int .i64 0] 93)).frozen? ⟨w.heap.size + 1 + 1, 0, none⟩ = false := by simp [go_sem]
  have hs3 : (((w.alloc (Obj.cells #[Value.slice a0 n0 c0, Value.slice a1 n1 c1] 35)).alloc (Obj.cells #[Value.int .i64 x0, Value.int .i64 x1, Value.slice a n c] 39)).alloc (Obj.cells #[Value.int .i64 0] 93)).heap.size = w.heap.size + 1 + 1 + 1 := by rw [World.size_alloc, World.size_alloc, World.size_alloc]
  replace hg := M0.cellAt hg
  go_enter Tryz.func30, Tryz.ntmps30
  go_wp2_with fail
  generalize (((w.alloc (Obj.cells #[Value.slice a0 n0 c0, Value.slice a1 n1 c1] 35)).alloc (Obj.cells #[Value.int .i64 x0, Value.int .i64 x1, Value.slice a n c] 39)).alloc (Obj.cells #[Value.int .i64 0] 93)) = WW at *
  refine (implCheck a0 a1 n0 c0 n1 c1 B zA x0 x1 a n c B' hs _ (hA.mk M0 hB (.inr (Nat.le_refl _))) (Nat.le_trans hB M0.size) hn0 (h.mk M0 hB' (.inr (Nat.le_refl _))) (Nat.le_trans hB' M0.size) hn hz ht hb hf).mono ?_
  rintro e w2 ⟨he, m2⟩
  have hfr := m2.frozen (b := w.heap.size + 1 + 1) (o := 0) (by omega) (.inr (Nat.zero_le _))
  rw [fv] at hfr
  replace hg := m2.cellAt hg
  replace v0 := m2.cellAt v0
  have M2 := M0.trans m2
  have hsz := m2.size
  obtain ⟨V, hV⟩ : ∃ V, Hid (V = fiV zA n0 x0 x1 hs n) := ⟨_, Lib.hid rfl⟩
  rw [← hV.out] at he
  have hge : -1 ≤ V := by rw [hV.out]; exact fiN_ge _ _ _
  by_cases hneg : V < 0
  · have hV1 : V = -1 := by omega
    have HR := Lib.hid (hV.out.symm.trans hV1)
    rw [show errOf V = .nilIface from if_pos hneg] at he
    subst he
    clear hV1 hneg hge hz hf
    go_wp2_with fail
    refine (as_nil _ _).mono ?_
    rintro e w3 ⟨rfl, rfl⟩
    go_wp2_with fail
    go_ret
    exact ⟨retI HR.out.symm, M2⟩
  · rw [show errOf V = .iface 93 (.agg #[.int .i64 V]) from if_neg hneg] at he
    subst he
    have HR := Lib.hid hV.out
    clear hge hneg hz hf
    go_wp2_with fail
    refine (as_hit V ⟨w.heap.size + 1 + 1, 0, none⟩ (.int .i64 0) w2 hg v0 hfr).mono ?_
    rintro e w3 ⟨rfl, hw3⟩
    have MM := ((((M2.new (.cells #[.pointer (some ⟨w.heap.size + 1 + 1, 0, none⟩)] 98)).new (.cells #[.pointer (some ⟨1, 98, none⟩), .pointer (some ⟨w2.heap.size, 0, none⟩), .int .u64 150] 117)).new (.cells #[.pointer (some ⟨1, 98, none⟩), .pointer (some ⟨w2.heap.size, 0, none⟩), .int .u64 150] 117)).new (.cells #[.int .i64 V] 93)).put ⟨w.heap.size + 1 + 1, 0, none⟩ (.int .i64 V) (by show w.heap.size ≤ w.heap.size + 1 + 1; omega)
    rw [← hw3] at MM
    have v3 : w3.cell? ⟨w.heap.size + 1 + 1, 0, none⟩ = some (.int .i64 V) := by
      rw [hw3]
      refine World.cell?_setCell_same _ _ (.int .i64 V) (?_ : _ = some (.int .i64 0))
      rw [World.cell?_alloc_lt _ _ _ (by simp only [World.size_alloc]; omega), World.cell?_alloc_lt _ _ _ (by simp only [World.size_alloc]; omega), World.cell?_alloc_lt _ _ _ (by simp only [World.size_alloc]; omega), World.cell?_alloc_lt _ _ _ (by show w.heap.size + 1 + 1 < w2.heap.size; omega)]
      exact v0
    clear hw3
    go_wp2_with fail
    go_ret
    exact ⟨retI HR.out, MM⟩

set_option maxRecDepth 100000 in
set_option maxHeartbeats 4000000 in
theorem specFInv (a0 a1 : Option Addr) (n0 c0 n1 c1 B : Nat) (zA : List TAS) (x0 x1 : Int) (a : Option Addr) (n c B' : Nat) (hs : List THop) (w : World) (hA : HasAS w B a0 n0 zA) (hB : B ≤ w.heap.size) (hn0 : n0 ≤ 1048576) (h : HasHop w B' a n hs) (hB' : B' ≤ w.heap.size) (hn : n ≤ 1048576) (hz : ∀ y ∈ zA, TAS.fits y) (ht : (Lit.int .i64 x0).wf = true) (hb : (Lit.int .i64 x1).wf = true) (hf : ∀ y ∈ hs, THop.fits y) :
    Calls Tryz.prog 22 #[.agg #[.slice a0 n0 c0, .slice a1 n1 c1], .agg #[.int .i64 x0, .int .i64 x1, .slice a n c]] w fun e w' => e = .returned (.int .i64 (fiV zA n0 x0 x1 hs n)) ∧ Mk0 w w' := by
  have M0 := (Mk.alloc w (Obj.cells #[Value.slice a0 n0 c0, Value.slice a1 n1 c1] 35)).new (Obj.cells #[Value.int .i64 x0, Value.int .i64 x1, Value.slice a n c] 39)
  have k0 : ((w.alloc (Obj.cells #[Value.slice a0 n0 c0, Value.slice a1 n1 c1] 35)).alloc (Obj.cells #[Value.int .i64 x0, Value.int .i64 x1, Value.slice a n c] 39)).cell? ⟨w.heap.size, 0, none⟩ = some (.slice a0 n0 c0) := by simp [go_sem]
  have k1 : ((w.alloc (Obj.cells #[Value.slice a0 n0 c0, Value.slice a1 n1 c1] 35)).alloc (Obj.cells #[Value.int .i64 x0, Value.int .i64 x1, Value.slice a n c] 39)).cell? ⟨w.heap.size, 1, none⟩ = some (.slice a1 n1 c1) := by simp [go_sem]
  have j0 : ((w.alloc (Obj.cells #[Value.slice a0 n0 c0, Value.slice a1 n1 c1] 35)).alloc (Obj.cells #[Value.int .i64 x0, Value.int .i64 x1, Value.slice a n c] 39)).cell? ⟨w.heap.size + 1, 0, none⟩ = some (.int .i64 x0) := by simp [go_sem]
  have j1 : ((w.alloc (Obj.cells #[Value.slice a0 n0 c0, Value.slice a1 n1 c1] 35)).alloc (Obj.cells #[Value.int .i64 x0, Value.int .i64 x1, Value.slice a n c] 39)).cell? ⟨w.heap.size + 1, 1, none⟩ = some (.int .i64 x1) := by simp [go_sem]
  have j2 : ((w.alloc (Obj.cells #[Value.slice a0 n0 c0, Value.slice a1 n1 c1] 35)).alloc (Obj.cells #[Value.int .i64 x0, Value.int .i64 x1, Value.slice a n c] 39)).cell? ⟨w.heap.size + 1, 2, none⟩ = some (.slice a n c) := by simp [go_sem]
  have HZ := Lib.hid hz
  have HFF := Lib.hid hf
  have HBF := Lib.hid (bUp_fits hb hs)
  have HTF := Lib.hid ht
  clear hz hf hb ht
  go_enter Tryz.func22, Tryz.ntmps22
  go_wp2_with fail
  go_loopw [4, 5] (fun rr i wr => rr = .int .i64 0 ∧ ∃ k : Nat, k ≤ n ∧ i = .int .i64 k ∧ Hid (fiV zA n0 x0 x1 hs n = fiN (badH zA n0 x0 x1 hs) n (n - k)) ∧ Mk0 ((w.alloc (Obj.cells #[Value.slice a0 n0 c0, Value.slice a1 n1 c1] 35)).alloc (Obj.cells #[Value.int .i64 x0, Value.int .i64 x1, Value.slice a n c] 39)) wr) (fun _ i _ => n - (intOf i).toNat)
  case atStart => exact ⟨rfl, 0, Nat.zero_le _, rfl, rfl, Mk.refl _ _ _⟩
  case round =>
    obtain ⟨rfl, k, hk, rfl, hS, hM⟩ := hrel
    replace k0 := hM.cellAt k0
    replace k1 := hM.cellAt k1
    replace j0 := hM.cellAt j0
    replace j1 := hM.cellAt j1
    replace j2 := hM.cellAt j2
    have hM' := M0.trans hM
    by_cases hlt : k < n
    · obtain ⟨b, off, x, eb, hb2, hx, d0, d1, d2, d3, d4⟩ := HasHop.at _ _ _ _ _ _ (h.mk hM' hB' (.inr (Nat.le_refl _))) hlt
      subst eb
      have i1 : (0 : Int) ≤ (k : Int) := by omega
      have i2 : (k : Int) < (n : Int) := by omega
      have HXF := Lib.hid (hopL_fits HTF.out (HBF.out k) (hopfit h.1 hlt HFF.out hx.out))
      obtain ⟨V, hV⟩ : ∃ V, Hid (V = vAt zA n0 x0 x1 hs k) := ⟨_, Lib.hid rfl⟩
      have HV := Lib.hid (show vhB zA n0 x0 (bUp x1 hs k) x.nd x.ing x.eg x.exp x.mac = V by rw [hV.out]; unfold vAt; rw [← hx.out])
      obtain ⟨β, hβ⟩ : ∃ β, Hid (β = bUp x1 hs k) := ⟨_, Lib.hid rfl⟩
      rw [← hβ.out] at HXF HV
      have HBE := Lib.hid ((betaV_bUp (b := x1) (hs := hs) (n := n) (q := k) hk).trans hβ.out.symm)
      cases hv : V
      · rw [hv] at HV hV
        have HV2 := Lib.hid hV.out.symm
        have HE := Lib.hid (show fiV zA n0 x0 x1 hs n = (k : Int) by rw [hS.out]; exact fiN_stop hlt (by unfold badH; rw [HV2.out]; rfl))
        clear hv hV
        go_wp2_with fail
        refine wp_region_wk (fun w' => Mk0 wr w' ∧ w'.cell? ⟨w.heap.size, 0, none⟩ = some (.slice a0 n0 c0) ∧ w'.cell? ⟨w.heap.size, 1, none⟩ = some (.slice a1 n1 c1) ∧ w'.cell? ⟨w.heap.size + 1, 0, none⟩ = some (.int .i64 x0) ∧ w'.cell? ⟨w.heap.size + 1, 1, none⟩ = some (.int .i64 x1) ∧ w'.cell? ⟨w.heap.size + 1, 2, none⟩ = some (.slice (some ⟨b, off, none⟩) n c) ∧ w'.cell? ⟨b, off + k * 5, none⟩ = some (.int .i64 x.nd) ∧ w'.cell? ⟨b, off + k * 5 + 1, none⟩ = some (.int .i64 x.ing) ∧ w'.cell? ⟨b, off + k * 5 + 2, none⟩ = some (.int .i64 x.eg) ∧ w'.cell? ⟨b, off + k * 5 + 3, none⟩ = some (.int .i64 x.exp) ∧ w'.cell? ⟨b, off + k * 5 + 4, none⟩ = some (.int .i64 x.mac)) (by kernel_rfl) (by kernel_rfl) (⟨Mk.drew1 _, k0, k1, j0, j1, j2, d0, d1, d2, d3, d4⟩) ?_
        change Wk _ _ _ _ 13 0 _
        first | (refine Wk.skip (m := 12) (k := 0) rfl (by rfl) ?_) | (refine Wk.step (m := 12) (k := 0) (v := _) rfl (by rfl) (fun wv hS => by obtain ⟨s0, s1, s2, s3, s4, s5, s6, s7, s8, s9, s10⟩ := hS; go_simp; try with_reducible rfl) ?_)
        try simp only [Act.put, List.getElem_toArray, List.getElem_cons_zero, List.setIfInBounds_toArray, List.set_cons_zero, List.set_cons_succ]
        first | (refine Wk.skip (m := 11) (k := 1) rfl (by rfl) ?_) | (refine Wk.step (m := 11) (k := 1) (v := _) rfl (by rfl) (fun wv hS => by obtain ⟨s0, s1, s2, s3, s4, s5, s6, s7, s8, s9, s10⟩ := hS; go_simp; try with_reducible rfl) ?_)
        try simp only [Act.put, List.getElem_toArray, List.getElem_cons_succ, List.getElem_cons_zero, List.setIfInBounds_toArray, List.set_cons_zero, List.set_cons_succ]
        first | (refine Wk.skip (m := 10) (k := 2) rfl (by rfl) ?_) | (refine Wk.step (m := 10) (k := 2) (v := _) rfl (by rfl) (fun wv hS => by obtain ⟨s0, s1, s2, s3, s4, s5, s6, s7, s8, s9, s10⟩ := hS; go_simp; try with_reducible rfl) ?_)
        try simp only [Act.put, List.getElem_toArray, List.getElem_cons_succ, List.getElem_cons_zero, List.setIfInBounds_toArray, List.set_cons_zero, List.set_cons_succ]
        first | (refine Wk.skip (m := 9) (k := 3) rfl (by rfl) ?_) | (refine Wk.step (m := 9) (k := 3) (v := _) rfl (by rfl) (fun wv hS => by obtain ⟨s0, s1, s2, s3, s4, s5, s6, s7, s8, s9, s10⟩ := hS; go_simp; try with_reducible rfl) ?_)
        try simp only [Act.put, List.getElem_toArray, List.getElem_cons_succ, List.getElem_cons_zero, List.setIfInBounds_toArray, List.set_cons_zero, List.set_cons_succ]
        first | (refine Wk.skip (m := 8) (k := 4) rfl (by rfl) ?_) | (refine Wk.step (m := 8) (k := 4) (v := _) rfl (by rfl) (fun wv hS => by obtain ⟨s0, s1, s2, s3, s4, s5, s6, s7, s8, s9, s10⟩ := hS; go_simp; try with_reducible rfl) ?_)
        try simp only [Act.put, List.getElem_toArray, List.getElem_cons_succ, List.getElem_cons_zero, List.setIfInBounds_toArray, List.set_cons_zero, List.set_cons_succ]
        refine Wk.call (m := 7) (k := 5) (v := .int .i64 β) _ _ rfl (by rfl) (fun wv hS => by obtain ⟨s0, s1, s2, s3, s4, s5, s6, s7, s8, s9, s10⟩ := hS; go_simp; first | done | exact ⟨rfl, rfl⟩ | with_reducible rfl) (fun wv hS => ?_) ?_; · obtain ⟨s0, s1, s2, s3, s4, s5, s6, s7, s8, s9, s10⟩ := hS; refine (specBetaAt x0 x1 _ n c B' hs (k : Int) wv (h.mk (hM'.trans s0) hB' (.inr (Nat.le_refl _))) (Nat.le_trans hB' (hM'.trans s0).size) hn).mono ?_; rintro e w' ⟨he, mm⟩; exact ⟨by rw [he, HBE.out], ⟨s0.trans mm, mm.cellAt s1, mm.cellAt s2, mm.cellAt s3, mm.cellAt s4, mm.cellAt s5, mm.cellAt s6, mm.cellAt s7, mm.cellAt s8, mm.cellAt s9, mm.cellAt s10⟩⟩
        try simp only [Act.put, List.getElem_toArray, List.getElem_cons_succ, List.getElem_cons_zero, List.setIfInBounds_toArray, List.set_cons_zero, List.set_cons_succ]
        first | (refine Wk.skip (m := 6) (k := 6) rfl (by rfl) ?_) | (refine Wk.step (m := 6) (k := 6) (v := _) rfl (by rfl) (fun wv hS => by obtain ⟨s0, s1, s2, s3, s4, s5, s6, s7, s8, s9, s10⟩ := hS; go_simp; try with_reducible rfl) ?_)
        try simp only [Act.put, List.getElem_toArray, List.getElem_cons_succ, List.getElem_cons_zero, List.setIfInBounds_toArray, List.set_cons_zero, List.set_cons_succ]
        first | (refine Wk.skip (m := 5) (k := 7) rfl (by rfl) ?_) | (refine Wk.step (m := 5) (k := 7) (v := _) rfl (by rfl) (fun wv hS => by obtain ⟨s0, s1, s2, s3, s4, s5, s6, s7, s8, s9, s10⟩ := hS; go_simp; try with_reducible rfl) ?_)
        try simp only [Act.put, List.getElem_toArray, List.getElem_cons_succ, List.getElem_cons_zero, List.setIfInBounds_toArray, List.set_cons_zero, List.set_cons_succ]
        first | (refine Wk.skip (m := 4) (k := 8) rfl (by rfl) ?_) | (refine Wk.step (m := 4) (k := 8) (v := _) rfl (by rfl) (fun wv hS => by obtain ⟨s0, s1, s2, s3, s4, s5, s6, s7, s8, s9, s10⟩ := hS; go_simp; try with_reducible rfl) ?_)
        try simp only [Act.put, List.getElem_toArray, List.getElem_cons_succ, List.getElem_cons_zero, List.setIfInBounds_toArray, List.set_cons_zero, List.set_cons_succ]
        first | (refine Wk.skip (m := 3) (k := 9) rfl (by rfl) ?_) | (refine Wk.step (m := 3) (k := 9) (v := _) rfl (by rfl) (fun wv hS => by obtain ⟨s0, s1, s2, s3, s4, s5, s6, s7, s8, s9, s10⟩ := hS; go_simp; try with_reducible rfl) ?_)
        try simp only [Act.put, List.getElem_toArray, List.getElem_cons_succ, List.getElem_cons_zero, List.setIfInBounds_toArray, List.set_cons_zero, List.set_cons_succ]
        first | (refine Wk.skip (m := 2) (k := 10) rfl (by rfl) ?_) | (refine Wk.step (m := 2) (k := 10) (v := _) rfl (by rfl) (fun wv hS => by obtain ⟨s0, s1, s2, s3, s4, s5, s6, s7, s8, s9, s10⟩ := hS; go_simp; try with_reducible rfl) ?_)
        try simp only [Act.put, List.getElem_toArray, List.getElem_cons_succ, List.getElem_cons_zero, List.setIfInBounds_toArray, List.set_cons_zero, List.set_cons_succ]
        refine Wk.call (m := 1) (k := 11) (v := .bool false) _ _ rfl (by rfl) (fun wv hS => by obtain ⟨s0, s1, s2, s3, s4, s5, s6, s7, s8, s9, s10⟩ := hS; go_simp; first | done | exact ⟨rfl, rfl⟩ | with_reducible rfl) (fun wv hS => ?_) ?_; · obtain ⟨s0, s1, s2, s3, s4, s5, s6, s7, s8, s9, s10⟩ := hS; refine (specVerify a0 a1 n0 c0 n1 c1 B zA x0 β x.nd x.ing x.eg x.exp x.mac wv (hA.mk (hM'.trans s0) hB (.inr (Nat.le_refl _))) (Nat.le_trans hB (hM'.trans s0).size) hn0 HZ.out HXF.out).mono ?_; rintro e w' ⟨he, mm⟩; exact ⟨by rw [he, HV.out], ⟨s0.trans mm, mm.cellAt s1, mm.cellAt s2, mm.cellAt s3, mm.cellAt s4, mm.cellAt s5, mm.cellAt s6, mm.cellAt s7, mm.cellAt s8, mm.cellAt s9, mm.cellAt s10⟩⟩
        try simp only [Act.put, List.getElem_toArray, List.getElem_cons_succ, List.getElem_cons_zero, List.setIfInBounds_toArray, List.set_cons_zero, List.set_cons_succ]
        first | (refine Wk.skip (m := 0) (k := 12) rfl (by rfl) ?_) | (refine Wk.step (m := 0) (k := 12) (v := _) rfl (by rfl) (fun wv hS => by obtain ⟨s0, s1, s2, s3, s4, s5, s6, s7, s8, s9, s10⟩ := hS; go_simp; try with_reducible rfl) ?_)
        try simp only [Act.put, List.getElem_toArray, List.getElem_cons_succ, List.getElem_cons_zero, List.setIfInBounds_toArray, List.set_cons_zero, List.set_cons_succ]
        refine Wk.done fun wE hE => ?_
        clear k0 k1 j0 j1 j2 d0 d1 d2 d3 d4
        obtain ⟨mE, k0, k1, j0, j1, j2, d0, d1, d2, d3, d4⟩ := hE
        go_wp2_with fail
        go_ret
        exact ⟨retI HE.out.symm, hM'.trans mE⟩
      · rw [hv] at HV hV
        have HV2 := Lib.hid hV.out.symm
        have HE := Lib.hid (show fiV zA n0 x0 x1 hs n = fiN (badH zA n0 x0 x1 hs) n (n - (k + 1)) by rw [hS.out]; exact fiN_go hlt (by unfold badH; rw [HV2.out]; rfl))
        clear hv hV
        go_wp2_with fail
        refine wp_region_wk (fun w' => Mk0 wr w' ∧ w'.cell? ⟨w.heap.size, 0, none⟩ = some (.slice a0 n0 c0) ∧ w'.cell? ⟨w.heap.size, 1, none⟩ = some (.slice a1 n1 c1) ∧ w'.cell? ⟨w.heap.size + 1, 0, none⟩ = some (.int .i64 x0) ∧ w'.cell? ⟨w.heap.size + 1, 1, none⟩ = some (.int .i64 x1) ∧ w'.cell? ⟨w.heap.size + 1, 2, none⟩ = some (.slice (some ⟨b, off, none⟩) n c) ∧ w'.cell? ⟨b, off + k * 5, none⟩ = some (.int .i64 x.nd) ∧ w'.cell? ⟨b, off + k * 5 + 1, none⟩ = some (.int .i64 x.ing) ∧ w'.cell? ⟨b, off + k * 5 + 2, none⟩ = some (.int .i64 x.eg) ∧ w'.cell? ⟨b, off + k * 5 + 3, none⟩ = some (.int .i64 x.exp) ∧ w'.cell? ⟨b, off + k * 5 + 4, none⟩ = some (.int .i64 x.mac)) (by kernel_rfl) (by kernel_rfl) (⟨Mk.drew1 _, k0, k1, j0, j1, j2, d0, d1, d2, d3, d4⟩) ?_
        change Wk _ _ _ _ 13 0 _
        first | (refine Wk.skip (m := 12) (k := 0) rfl (by rfl) ?_) | (refine Wk.step (m := 12) (k := 0) (v := _) rfl (by rfl) (fun wv hS => by obtain ⟨s0, s1, s2, s3, s4, s5, s6, s7, s8, s9, s10⟩ := hS; go_simp; try with_reducible rfl) ?_)
        try simp only [Act.put, List.getElem_toArray, List.getElem_cons_zero, List.setIfInBounds_toArray, List.set_cons_zero, List.set_cons_succ]
        first | (refine Wk.skip (m := 11) (k := 1) rfl (by rfl) ?_) | (refine Wk.step (m := 11) (k := 1) (v := _) rfl (by rfl) (fun wv hS => by obtain ⟨s0, s1, s2, s3, s4, s5, s6, s7, s8, s9, s10⟩ := hS; go_simp; try with_reducible rfl) ?_)
        try simp only [Act.put, List.getElem_toArray, List.getElem_cons_succ, List.getElem_cons_zero, List.setIfInBounds_toArray, List.set_cons_zero, List.set_cons_succ]
        first | (refine Wk.skip (m := 10) (k := 2) rfl (by rfl) ?_) | (refine Wk.step (m := 10) (k := 2) (v := _) rfl (by rfl) (fun wv hS => by obtain ⟨s0, s1, s2, s3, s4, s5, s6, s7, s8, s9, s10⟩ := hS; go_simp; try with_reducible rfl) ?_)
        try simp only [Act.put, List.getElem_toArray, List.getElem_cons_succ, List.getElem_cons_zero, List.setIfInBounds_toArray, List.set_cons_zero, List.set_cons_succ]
        first | (refine Wk.skip (m := 9) (k := 3) rfl (by rfl) ?_) | (refine Wk.step (m := 9) (k := 3) (v := _) rfl (by rfl) (fun wv hS => by obtain ⟨s0, s1, s2, s3, s4, s5, s6, s7, s8, s9, s10⟩ := hS; go_simp; try with_reducible rfl) ?_)
        try simp only [Act.put, List.getElem_toArray, List.getElem_cons_succ, List.getElem_cons_zero, List.setIfInBounds_toArray, List.set_cons_zero, List.set_cons_succ]
        first | (refine Wk.skip (m := 8) (k := 4) rfl (by rfl) ?_) | (refine Wk.step (m := 8) (k := 4) (v := _) rfl (by rfl) (fun wv hS => by obtain ⟨s0, s1, s2, s3, s4, s5, s6, s7, s8, s9, s10⟩ := hS; go_simp; try with_reducible rfl) ?_)
        try simp only [Act.put, List.getElem_toArray, List.getElem_cons_succ, List.getElem_cons_zero, List.setIfInBounds_toArray, List.set_cons_zero, List.set_cons_succ]
        refine Wk.call (m := 7) (k := 5) (v := .int .i64 β) _ _ rfl (by rfl) (fun wv hS => by obtain ⟨s0, s1, s2, s3, s4, s5, s6, s7, s8, s9, s10⟩ := hS; go_simp; first | done | exact ⟨rfl, rfl⟩ | with_reducible rfl) (fun wv hS => ?_) ?_; · obtain ⟨s0, s1, s2, s3, s4, s5, s6, s7, s8, s9, s10⟩ := hS; refine (specBetaAt x0 x1 _ n c B' hs (k : Int) wv (h.mk (hM'.trans s0) hB' (.inr (Nat.le_refl _))) (Nat.le_trans hB' (hM'.trans s0).size) hn).mono ?_; rintro e w' ⟨he, mm⟩; exact ⟨by rw [he, HBE.out], ⟨s0.trans mm, mm.cellAt s1, mm.cellAt s2, mm.cellAt s3, mm.cellAt s4, mm.cellAt s5, mm.cellAt s6, mm.cellAt s7, mm.cellAt s8, mm.cellAt s9, mm.cellAt s10⟩⟩
        try simp only [Act.put, List.getElem_toArray, List.getElem_cons_succ, List.getElem_cons_zero, List.setIfInBounds_toArray, List.set_cons_zero, List.set_cons_succ]
        first | (refine Wk.skip (m := 6) (k := 6) rfl (by rfl) ?_) | (refine Wk.step (m := 6) (k := 6) (v := _) rfl (by rfl) (fun wv hS => by obtain ⟨s0, s1, s2, s3, s4, s5, s6, s7, s8, s9, s10⟩ := hS; go_simp; try with_reducible rfl) ?_)
        try simp only [Act.put, List.getElem_toArray, List.getElem_cons_succ, List.getElem_cons_zero, List.setIfInBounds_toArray, List.set_cons_zero, List.set_cons_succ]
        first | (refine Wk.skip (m := 5) (k := 7) rfl (by rfl) ?_) | (refine Wk.step (m := 5) (k := 7) (v := _) rfl (by rfl) (fun wv hS => by obtain ⟨s0, s1, s2, s3, s4, s5, s6, s7, s8, s9, s10⟩ := hS; go_simp; try with_reducible rfl) ?_)
        try simp only [Act.put, List.getElem_toArray, List.getElem_cons_succ, List.getElem_cons_zero, List.setIfInBounds_toArray, List.set_cons_zero, List.set_cons_succ]
        first | (refine Wk.skip (m := 4) (k := 8) rfl (by rfl) ?_) | (refine Wk.step (m := 4) (k := 8) (v := _) rfl (by rfl) (fun wv hS => by obtain ⟨s0, s1, s2, s3, s4, s5, s6, s7, s8, s9, s10⟩ := hS; go_simp; try with_reducible rfl) ?_)
        try simp only [Act.put, List.getElem_toArray, List.getElem_cons_succ, List.getElem_cons_zero, List.setIfInBounds_toArray, List.set_cons_zero, List.set_cons_succ]
        first | (refine Wk.skip (m := 3) (k := 9) rfl (by rfl) ?_) | (refine Wk.step (m := 3) (k := 9) (v := _) rfl (by rfl) (fun wv hS => by obtain ⟨s0, s1, s2, s3, s4, s5, s6, s7, s8, s9, s10⟩ := hS; go_simp; try with_reducible rfl) ?_)
        try simp only [Act.put, List.getElem_toArray, List.getElem_cons_succ, List.getElem_cons_zero, List.setIfInBounds_toArray, List.set_cons_zero, List.set_cons_succ]
        first | (refine Wk.skip (m := 2) (k := 10) rfl (by rfl) ?_) | (refine Wk.step (m := 2) (k := 10) (v := _) rfl (by rfl) (fun wv hS => by obtain ⟨s0, s1, s2, s3, s4, s5, s6, s7, s8, s9, s10⟩ := hS; go_simp; try with_reducible rfl) ?_)
        try simp only [Act.put, List.getElem_toArray, List.getElem_cons_succ, List.getElem_cons_zero, List.setIfInBounds_toArray, List.set_cons_zero, List.set_cons_succ]
        refine Wk.call (m := 1) (k := 11) (v := .bool true) _ _ rfl (by rfl) (fun wv hS => by obtain ⟨s0, s1, s2, s3, s4, s5, s6, s7, s8, s9, s10⟩ := hS; go_simp; first | done | exact ⟨rfl, rfl⟩ | with_reducible rfl) (fun wv hS => ?_) ?_; · obtain ⟨s0, s1, s2, s3, s4, s5, s6, s7, s8, s9, s10⟩ := hS; refine (specVerify a0 a1 n0 c0 n1 c1 B zA x0 β x.nd x.ing x.eg x.exp x.mac wv (hA.mk (hM'.trans s0) hB (.inr (Nat.le_refl _))) (Nat.le_trans hB (hM'.trans s0).size) hn0 HZ.out HXF.out).mono ?_; rintro e w' ⟨he, mm⟩; exact ⟨by rw [he, HV.out], ⟨s0.trans mm, mm.cellAt s1, mm.cellAt s2, mm.cellAt s3, mm.cellAt s4, mm.cellAt s5, mm.cellAt s6, mm.cellAt s7, mm.cellAt s8, mm.cellAt s9, mm.cellAt s10⟩⟩
        try simp only [Act.put, List.getElem_toArray, List.getElem_cons_succ, List.getElem_cons_zero, List.setIfInBounds_toArray, List.set_cons_zero, List.set_cons_succ]
        first | (refine Wk.skip (m := 0) (k := 12) rfl (by rfl) ?_) | (refine Wk.step (m := 0) (k := 12) (v := _) rfl (by rfl) (fun wv hS => by obtain ⟨s0, s1, s2, s3, s4, s5, s6, s7, s8, s9, s10⟩ := hS; go_simp; try with_reducible rfl) ?_)
        try simp only [Act.put, List.getElem_toArray, List.getElem_cons_succ, List.getElem_cons_zero, List.setIfInBounds_toArray, List.set_cons_zero, List.set_cons_succ]
        refine Wk.done fun wE hE => ?_
        clear k0 k1 j0 j1 j2 d0 d1 d2 d3 d4
        obtain ⟨mE, k0, k1, j0, j1, j2, d0, d1, d2, d3, d4⟩ := hE
        go_wp2_with fail
        go_roundw
        case rel => exact ⟨rfl, k + 1, by omega, by go_num, HE.out, hM.trans mE⟩
        case measure => simp [intOf]; omega
    · obtain rfl : k = n := by omega
      go_wp2_with fail
      go_ret
      exact ⟨retI (by rw [hS.out, Nat.sub_self]; rfl), hM'⟩

end Go.Proofs.YtefjbnbibmiccaaGreatDoor
namespace Go.Proofs.YtefjbnbibmiccaaGreatDoor
open Go.ChangeShapes Go.WideShapes Go.ChangeAt Go.RowKit
set_option linter.unusedVariables false
def firstI (f : Nat → Int) (x : Int) (n : Nat) : Nat → Int
  | 0 => -1
  | m + 1 => if (f (n - (m + 1)) == x) = true then ((n - (m + 1) : Nat) : Int) else firstI f x n m
theorem firstI_stop {f : Nat → Int} {x : Int} {n k : Nat} (hk : k < n) (h : (f k == x) = true) : firstI f x n (n - k) = (k : Int) := by
  obtain ⟨m, hm⟩ : ∃ m, n - k = m + 1 := ⟨n - k - 1, by omega⟩
  rw [hm, firstI, show n - (m + 1) = k by omega, if_pos h]
theorem firstI_go {f : Nat → Int} {x : Int} {n k : Nat} (hk : k < n) (h : (f k == x) = false) : firstI f x n (n - k) = firstI f x n (n - (k + 1)) := by
  obtain ⟨m, hm⟩ : ∃ m, n - k = m + 1 := ⟨n - k - 1, by omega⟩
  rw [hm, firstI, show n - (m + 1) = k by omega, if_neg (by rw [h]; decide), show n - (k + 1) = m by omega]
theorem firstI_has (f : Nat → Int) (x : Int) (n : Nat) : ∀ m, m ≤ n → (∀ j, j < n - m → (f j == x) = false) → decide (0 ≤ firstI f x n m) = inUp f x n
  | 0, _, h => by
    have : inUp f x n = false := by
      have h2 : ∀ q, q ≤ n → inUp f x q = false := by
        intro q
        induction q with
        | zero => intro _; rfl
        | succ q ih => intro hq; rw [inUp, h q (by omega), ih (by omega)]; rfl
      exact h2 n (Nat.le_refl _)
    rw [this]
    rfl
  | m + 1, hm, h => by
    rw [firstI]
    split
    · rename_i he
      rw [show inUp f x n = true from inUp_mono (k := n - (m + 1) + 1) (by rw [inUp, he]; rfl) (by omega)]
      exact decide_eq_true (by omega)
    · rename_i he
      refine firstI_has f x n m (by omega) fun j hj => ?_
      by_cases hjm : j = n - (m + 1)
      · subst hjm; simpa using he
      · exact h j (by omega)
def nthI (zs : List Int) (j : Nat) : Int := zs.getD j 0
set_option maxRecDepth 100000 in
set_option maxHeartbeats 4000000 in
theorem indexI (x : Int) (a : Option Addr) (n c B : Nat) (zs : List Int) (w : World) (h : Has .i64 w B a n zs) (hn : n ≤ 4194304) :
    Calls Tryz.prog 80 #[.slice a n c, .int .i64 x] w fun e w' => e = .returned (.int .i64 (firstI (nthI zs) x n n)) ∧ w = w' := by
  go_enter Tryz.func80, Tryz.ntmps80
  go_wp2_with fail
  go_loop [4, 8] (fun r i => r = .int .i64 0 ∧ ∃ k : Nat, k ≤ n ∧ i = .int .i64 k ∧ Hid (firstI (nthI zs) x n n = firstI (nthI zs) x n (n - k))) (fun _ i => n - (intOf i).toNat)
  case atStart => exact ⟨rfl, 0, Nat.zero_le _, rfl, rfl⟩
  case round =>
    obtain ⟨rfl, k, hk, rfl, hS⟩ := hrel
    by_cases hlt : k < n
    · obtain ⟨b, off, z, rfl, hb, hz, c0⟩ := h.at_ hlt
      cases he : (z == x)
      · have HE := Lib.hid (show firstI (nthI zs) x n n = firstI (nthI zs) x n (n - (k + 1)) by rw [hS.out]; exact firstI_go hlt (by unfold nthI; rw [← hz.out]; exact he))
        have he2 : (x == z) = false := by rw [beq_eq_false_iff_ne] at he ⊢; exact fun e => he e.symm
        go_wp2_with fail
        go_round
        case rel => exact ⟨rfl, k + 1, by omega, by go_num, HE.out⟩
        case measure => simp [intOf]; omega
      · have HE := Lib.hid (show firstI (nthI zs) x n n = (k : Int) by rw [hS.out]; exact firstI_stop hlt (by unfold nthI; rw [← hz.out]; exact he))
        have he2 : (x == z) = true := by rw [beq_iff_eq] at he ⊢; exact he.symm
        go_wp2_with fail
        go_ret
        exact ⟨retI HE.out.symm, rfl⟩
    · obtain rfl : k = n := by omega
      go_wp2_with fail
      go_ret
      exact ⟨retI (by rw [hS.out, Nat.sub_self]; rfl), rfl⟩

set_option maxRecDepth 100000 in
set_option maxHeartbeats 4000000 in
theorem contI (x : Int) (a : Option Addr) (n c B : Nat) (zs : List Int) (w : World) (h : Has .i64 w B a n zs) (hn : n ≤ 4194304) :
    Calls Tryz.prog 50 #[.slice a n c, .int .i64 x] w fun e w' => e = .returned (.bool (inUp (nthI zs) x n)) ∧ w = w' := by
  have HR := Lib.hid (firstI_has (nthI zs) x n n (Nat.le_refl _) (fun j hj => by omega))
  go_enter Tryz.func50, Tryz.ntmps50
  go_wp2_with fail
  refine (indexI x a n c B zs _ h hn).mono ?_
  rintro e w' ⟨rfl, rfl⟩
  go_wp2_with fail
  go_ret
  exact ⟨retB HR.out, rfl⟩

end Go.Proofs.YtefjbnbibmiccaaGreatDoor
namespace Go.Proofs.YtefjbnbibmiccaaGreatDoor
open Go.ChangeShapes Go.WideShapes Go.ChangeAt Go.RowKit
set_option linter.unusedVariables false
def minV (a b : Int) : Int := if b < a then b else a
theorem ret_iM {a b : Int} (h : a = b) : Ending.returned (.int .i64 a) = .returned (.int .i64 b) := by rw [h]
theorem implMin (a0 a1 : Int) (w : World) :
    Calls Tryz.prog 93 #[.int .i64 a0, .int .i64 a1] w fun e w' => e = .returned (.int .i64 (minV a0 a1)) ∧ Below w.heap.size w w' := by
  by_cases c : a1 < a0
  · have hv : minV a0 a1 = a1 := if_pos c
    have HV := Lib.hid hv
    clear hv
    go_enter Tryz.func93, Tryz.ntmps93
    go_wp2
    go_rounds 2
    all_goals (go_ret; exact ⟨ret_iM HV.out.symm, by go_grown⟩)
  · have hv : minV a0 a1 = a0 := if_neg c
    have HV := Lib.hid hv
    clear hv
    have c' : a0 ≤ a1 := by omega
    go_enter Tryz.func93, Tryz.ntmps93
    go_wp2
    go_rounds 2
    all_goals (go_ret; exact ⟨ret_iM HV.out.symm, by go_grown⟩)
end Go.Proofs.YtefjbnbibmiccaaGreatDoor
namespace Go.Proofs.YtefjbnbibmiccaaGreatDoor
open Go.ChangeShapes Go.WideShapes Go.ChangeAt Go.RowKit
set_option linter.unusedVariables false
/-- The least of the first expiry and those of the first k hops. -/
def expUp (zs : List THop) : Nat → Int
  | 0 => (zs.getD 0 default).exp
  | k + 1 => minV (expUp zs k) (zs.getD k default).exp
def segExp (zs : List THop) (n : Nat) : Int := if n = 0 then 0 else expUp zs n
theorem expUp_one (zs : List THop) : expUp zs 1 = (zs.getD 0 default).exp := by simp [expUp, minV]
set_option maxRecDepth 100000 in
set_option maxHeartbeats 1600000 in
theorem specMin (a0 a1 : Int) (w : World) : Calls Tryz.prog 74 #[.int .i64 a0, .int .i64 a1] w fun e w' => e = .returned (.int .i64 (minV a0 a1)) ∧ w = w' := by
  by_cases c : a1 < a0
  · have hv : minV a0 a1 = a1 := if_pos c
    have HV := Lib.hid hv
    clear hv
    go_enter Tryz.func74, Tryz.ntmps74
    go_wp2
    go_ret
    exact ⟨retI HV.out.symm, rfl⟩
  · have hv : minV a0 a1 = a0 := if_neg c
    have HV := Lib.hid hv
    clear hv
    have c' : a0 ≤ a1 := by omega
    go_enter Tryz.func74, Tryz.ntmps74
    go_wp2
    go_ret
    exact ⟨retI HV.out.symm, rfl⟩

set_option maxRecDepth 100000 in
set_option maxHeartbeats 1600000 in
theorem specExpiry (x0 x1 : Int) (a : Option Addr) (n c B : Nat) (zs : List THop) (w : World) (h : HasHop w B a n zs) (hB : B ≤ w.heap.size) (hn : n ≤ 1048576) :
    Calls Tryz.prog 38 #[.agg #[.int .i64 x0, .int .i64 x1, .slice a n c]] w fun e w' => e = .returned (.int .i64 (segExp zs n)) ∧ Mk0 w w' := by
  by_cases hz : n = 0
  · subst hz
    go_enter Tryz.func38, Tryz.ntmps38
    go_wp2
    go_ret
    exact ⟨rfl, Mk.alloc _ _⟩
  · have hp : 0 < n := by omega
    obtain ⟨b, off, x, rfl, hb, hx, d0, d1, d2, d3, d4⟩ := HasHop.at _ _ _ _ _ _ h hp
    simp only [Nat.zero_mul, Nat.add_zero] at d0 d1 d2 d3 d4
    have hbw := Nat.lt_of_lt_of_le hb hB
    have hR : segExp zs n = expUp zs n := if_neg hz
    have HR := Lib.hid hR
    clear hR
    have E1 := Lib.hid ((expUp_one zs).trans (by rw [← hx.out]))
    have hc0 : ((n : Int) == 0) = false := by simpa using hz
    have M0 := Mk.alloc w (Obj.cells #[Value.int .i64 x0, Value.int .i64 x1, Value.slice (some ⟨b, off, none⟩) n c] 39)
    go_enter Tryz.func38, Tryz.ntmps38
    go_wp2_with fail
    go_loopw [3, 4] (fun v i wr => ∃ k : Nat, 1 ≤ k ∧ k ≤ n ∧ i = .int .i64 k ∧ v = .int .i64 (expUp zs k) ∧ Mk0 (w.alloc (Obj.cells #[Value.int .i64 x0, Value.int .i64 x1, Value.slice (some ⟨b, off, none⟩) n c] 39)) wr) (fun _ i _ => n - (intOf i).toNat)
    case atStart => exact ⟨1, Nat.le_refl _, by omega, rfl, congrArg (Value.int .i64) E1.out.symm, Mk.refl _ _ _⟩
    case round =>
      clear d0 d1 d2 d3 d4
      obtain ⟨k, hk0, hk, rfl, rfl, hM⟩ := hrel
      have hM' := M0.trans hM
      have k2 : (w.alloc (Obj.cells #[Value.int .i64 x0, Value.int .i64 x1, Value.slice (some ⟨b, off, none⟩) n c] 39)).cell? ⟨w.heap.size, 2, none⟩ = some (.slice (some ⟨b, off, none⟩) n c) := by simp [go_sem]
      replace k2 := hM.cellAt k2
      by_cases hlt : k < n
      · obtain ⟨b2, off2, y, e2, hb2, hy, d0, d1, d2, d3, d4⟩ := HasHop.at _ _ _ _ _ _ (h.mk hM' hB (.inr (Nat.le_refl _))) hlt
        cases e2
        have hbr := World.block_lt_of_cell? _ _ d0
        simp only at hbr
        have E := Lib.hid (show expUp zs (k + 1) = minV (expUp zs k) y.exp by rw [expUp, hy.out])
        go_wp2_with fail
        refine (specMin _ _ _).mono ?_
        rintro e w2 ⟨rfl, m2⟩
        go_wp2_with fail
        go_roundw
        case rel => exact ⟨k + 1, by omega, by omega, by go_num, congrArg (Value.int .i64) E.out.symm, (m2 ▸ hM)⟩
        case measure => simp [intOf]; omega
      · obtain rfl : k = n := by omega
        go_wp2_with fail
        go_ret
        exact ⟨retI HR.out.symm, hM'⟩

set_option maxRecDepth 100000 in
set_option maxHeartbeats 1600000 in
theorem hopsExpiry (a : Option Addr) (n c B : Nat) (zs : List THop) (w : World) (h : HasHop w B a n zs) (hB : B ≤ w.heap.size) (hn : n ≤ 1048576) :
    Calls Tryz.prog 75 #[.slice a n c] w fun e w' => e = .returned (.int .i64 (segExp zs n)) ∧ Mk0 w w' := by
  by_cases hz : n = 0
  · subst hz
    go_enter Tryz.func75, Tryz.ntmps75
    go_wp2
    go_ret
    exact ⟨rfl, Mk.refl _ _ _⟩
  · have hp : 0 < n := by omega
    obtain ⟨b, off, x, rfl, hb, hx, d0, d1, d2, d3, d4⟩ := HasHop.at _ _ _ _ _ _ h hp
    simp only [Nat.zero_mul, Nat.add_zero] at d0 d1 d2 d3 d4
    have hbw := Nat.lt_of_lt_of_le hb hB
    have hR : segExp zs n = expUp zs n := if_neg hz
    have HR := Lib.hid hR
    clear hR
    have hc0 : ((n : Int) == 0) = false := by simpa using hz
    have E1 := Lib.hid (show expUp zs 0 = x.exp by rw [hx.out]; rfl)
    go_enter Tryz.func75, Tryz.ntmps75
    go_wp2_with fail
    go_loopw [3, 15] (fun v i wr => ∃ k : Nat, 0 ≤ k ∧ k ≤ n ∧ i = .int .i64 k ∧ v = .int .i64 (expUp zs k) ∧ Mk0 w wr) (fun _ i _ => n - (intOf i).toNat)
    case atStart => exact ⟨0, Nat.le_refl _, by omega, rfl, congrArg (Value.int .i64) E1.out.symm, Mk.refl _ _ _⟩
    case round =>
      clear d0 d1 d2 d3 d4
      obtain ⟨k, hk0, hk, rfl, rfl, hM⟩ := hrel
      have hM' := hM
      by_cases hlt : k < n
      · obtain ⟨b2, off2, y, e2, hb2, hy, d0, d1, d2, d3, d4⟩ := HasHop.at _ _ _ _ _ _ (h.mk hM' hB (.inr (Nat.le_refl _))) hlt
        cases e2
        have hbr := World.block_lt_of_cell? _ _ d0
        simp only at hbr
        have E := Lib.hid (show expUp zs (k + 1) = minV (expUp zs k) y.exp by rw [expUp, hy.out])
        go_wp2_with fail
        refine (implMin _ _ _).mono ?_
        rintro e w2 ⟨rfl, m2⟩
        go_wp2_with fail
        go_roundw
        case rel => exact ⟨k + 1, by omega, by omega, by go_num, congrArg (Value.int .i64) E.out.symm, (hM.trans ((Mk.alloc _ _).trans (Mk.of_below m2)))⟩
        case measure => simp [intOf]; omega
      · obtain rfl : k = n := by omega
        go_wp2_with fail
        go_ret
        exact ⟨retI HR.out.symm, hM'⟩

set_option maxRecDepth 100000 in
set_option maxHeartbeats 1600000 in
theorem implExpiry (x0 x1 : Int) (a : Option Addr) (n c B : Nat) (zs : List THop) (w : World) (h : HasHop w B a n zs) (hB : B ≤ w.heap.size) (hn : n ≤ 1048576) :
    Calls Tryz.prog 41 #[.agg #[.int .i64 x0, .int .i64 x1, .slice a n c]] w fun e w' => e = .returned (.int .i64 (segExp zs n)) ∧ Mk0 w w' := by
  have hfld : ∀ w', (Instr.field 72 (Value.agg #[Value.slice a n c, Value.int .i64 x1]) 0).run Tryz.prog w' = .ok (.slice a n c) w' := fun _ => by kernel_rfl
  have M0 := Mk.alloc w (Obj.cells #[Value.int .i64 x0, Value.int .i64 x1, Value.slice a n c] 39)
  go_enter Tryz.func41, Tryz.ntmps41
  go_wp2_with fail
  refine (chainOf _ _ _ _ _ _).mono ?_
  rintro e w1 ⟨rfl, m1⟩
  go_wp2_with fail
  refine (hopsExpiry _ _ _ _ zs _ (h.mk (M0.trans m1) hB (.inr (Nat.le_refl _))) (Nat.le_trans hB (M0.trans m1).size) hn).mono ?_
  rintro e w2 ⟨rfl, m2⟩
  go_wp2_with fail
  go_ret
  exact ⟨rfl, (M0.trans m1).trans m2⟩
end Go.Proofs.YtefjbnbibmiccaaGreatDoor
namespace Go.Proofs.YtefjbnbibmiccaaGreatDoor
open Go.ChangeShapes Go.WideShapes Go.ChangeAt Go.RowKit
set_option linter.unusedVariables false
def okUp (zs : List THop) : Nat → Bool
  | 0 => true
  | k + 1 => okUp zs k && hopOk (zs.getD k default)
theorem okUp_stop {zs : List THop} {k : Nat} (h : hopOk (zs.getD k default) = false) : ∀ n, k < n → okUp zs n = false
  | 0, hk => absurd hk (by omega)
  | n + 1, hk => by
    rw [okUp]
    by_cases e : k = n
    · subst e; rw [h]; simp
    · rw [okUp_stop h n (by omega)]; rfl
def encB (x0 x1 : Int) (zs : List THop) (n : Nat) : Bool := if (0 ≤ x0 ∧ x0 ≤ 1000000) ∧ (0 ≤ x1 ∧ x1 ≤ 2147483646) ∧ n ≤ 8 then okUp zs n else false
set_option maxRecDepth 100000 in
set_option maxHeartbeats 2000000 in
theorem specResYes (n : Int) (w : World) (h1 : 0 ≤ n) (h2 : n ≤ 2147483646) : Calls Tryz.prog 25 #[.int .i64 n] w fun e w' => e = .returned (.bool true) ∧ w = w' := by
  have dh : decide (n ≤ 2147483646) = true := by simp; omega
  go_enter Tryz.func25, Tryz.ntmps25
  go_wp2_with go_in
  all_goals (go_ret; exact ⟨rfl, rfl⟩)
set_option maxRecDepth 100000 in
set_option maxHeartbeats 2000000 in
theorem specResNo (n : Int) (w : World) (h : n < 0 ∨ 2147483646 < n) : Calls Tryz.prog 25 #[.int .i64 n] w fun e w' => e = .returned (.bool false) ∧ w = w' := by
  by_cases h1 : n < 0
  · go_enter Tryz.func25, Tryz.ntmps25
    go_wp2_with go_in
    all_goals (go_ret; exact ⟨rfl, rfl⟩)
  · have h2 : 0 ≤ n := by omega
    have dh : decide (n ≤ 2147483646) = false := by simp; omega
    have h3 : 2147483646 < n := by omega
    clear h
    go_enter Tryz.func25, Tryz.ntmps25
    go_wp2_with go_in
    all_goals (go_ret; exact ⟨rfl, rfl⟩)
set_option maxRecDepth 100000 in
set_option maxHeartbeats 2000000 in
theorem implTimeYes (n : Int) (w : World) (h1 : 0 ≤ n) (h2 : n ≤ 1000000) : Calls Tryz.prog 32 #[.int .i64 n] w fun e w' => e = .returned (.bool true) ∧ w = w' := by
  have dh : decide (n ≤ 1000000) = true := by simp; omega
  go_enter Tryz.func32, Tryz.ntmps32
  go_wp2_with go_in
  all_goals (go_ret; exact ⟨rfl, rfl⟩)
set_option maxRecDepth 100000 in
set_option maxHeartbeats 2000000 in
theorem implTimeNo (n : Int) (w : World) (h : n < 0 ∨ 1000000 < n) : Calls Tryz.prog 32 #[.int .i64 n] w fun e w' => e = .returned (.bool false) ∧ w = w' := by
  by_cases h1 : n < 0
  · go_enter Tryz.func32, Tryz.ntmps32
    go_wp2_with go_in
    all_goals (go_ret; exact ⟨rfl, rfl⟩)
  · have h2 : 0 ≤ n := by omega
    have dh : decide (n ≤ 1000000) = false := by simp; omega
    have h3 : 1000000 < n := by omega
    clear h
    go_enter Tryz.func32, Tryz.ntmps32
    go_wp2_with go_in
    all_goals (go_ret; exact ⟨rfl, rfl⟩)
set_option maxRecDepth 100000 in
set_option maxHeartbeats 2000000 in
theorem implResYes (n : Int) (w : World) (h1 : 0 ≤ n) (h2 : n ≤ 2147483646) : Calls Tryz.prog 33 #[.int .i64 n] w fun e w' => e = .returned (.bool true) ∧ w = w' := by
  have dh : decide (n ≤ 2147483646) = true := by simp; omega
  go_enter Tryz.func33, Tryz.ntmps33
  go_wp2_with go_in
  all_goals (go_ret; exact ⟨rfl, rfl⟩)
set_option maxRecDepth 100000 in
set_option maxHeartbeats 2000000 in
theorem implResNo (n : Int) (w : World) (h : n < 0 ∨ 2147483646 < n) : Calls Tryz.prog 33 #[.int .i64 n] w fun e w' => e = .returned (.bool false) ∧ w = w' := by
  by_cases h1 : n < 0
  · go_enter Tryz.func33, Tryz.ntmps33
    go_wp2_with go_in
    all_goals (go_ret; exact ⟨rfl, rfl⟩)
  · have h2 : 0 ≤ n := by omega
    have dh : decide (n ≤ 2147483646) = false := by simp; omega
    have h3 : 2147483646 < n := by omega
    clear h
    go_enter Tryz.func33, Tryz.ntmps33
    go_wp2_with go_in
    all_goals (go_ret; exact ⟨rfl, rfl⟩)
end Go.Proofs.YtefjbnbibmiccaaGreatDoor
namespace Go.Proofs.YtefjbnbibmiccaaGreatDoor
open Go.ChangeShapes Go.WideShapes Go.ChangeAt Go.RowKit
set_option linter.unusedVariables false
def inB (n a b : Int) : Bool := decide (a ≤ n ∧ n ≤ b)
theorem specIn (n a b : Int) (w : World) : Calls Tryz.prog 24 #[.int .i64 n, .int .i64 a, .int .i64 b] w fun e w' => e = .returned (.bool (inB n a b)) ∧ w = w' := by
  by_cases h : a ≤ n ∧ n ≤ b
  · rw [show inB n a b = true from decide_eq_true h]; exact specInYes n a b w h.1 h.2
  · rw [show inB n a b = false from decide_eq_false h]; exact specInNo n a b w (by omega)
theorem implIn (n a b : Int) (w : World) : Calls Tryz.prog 40 #[.int .i64 n, .int .i64 a, .int .i64 b] w fun e w' => e = .returned (.bool (inB n a b)) ∧ w = w' := by
  by_cases h : a ≤ n ∧ n ≤ b
  · rw [show inB n a b = true from decide_eq_true h]; exact implInYes n a b w h.1 h.2
  · rw [show inB n a b = false from decide_eq_false h]; exact implInNo n a b w (by omega)
theorem specRes (n : Int) (w : World) : Calls Tryz.prog 25 #[.int .i64 n] w fun e w' => e = .returned (.bool (inB n 0 2147483646)) ∧ w = w' := by
  by_cases h : 0 ≤ n ∧ n ≤ 2147483646
  · rw [show inB n 0 2147483646 = true from decide_eq_true h]; exact specResYes n w h.1 h.2
  · rw [show inB n 0 2147483646 = false from decide_eq_false h]; exact specResNo n w (by omega)
theorem implRes (n : Int) (w : World) : Calls Tryz.prog 33 #[.int .i64 n] w fun e w' => e = .returned (.bool (inB n 0 2147483646)) ∧ w = w' := by
  by_cases h : 0 ≤ n ∧ n ≤ 2147483646
  · rw [show inB n 0 2147483646 = true from decide_eq_true h]; exact implResYes n w h.1 h.2
  · rw [show inB n 0 2147483646 = false from decide_eq_false h]; exact implResNo n w (by omega)
theorem implTime (n : Int) (w : World) : Calls Tryz.prog 32 #[.int .i64 n] w fun e w' => e = .returned (.bool (inB n 0 1000000)) ∧ w = w' := by
  by_cases h : 0 ≤ n ∧ n ≤ 1000000
  · rw [show inB n 0 1000000 = true from decide_eq_true h]; exact implTimeYes n w h.1 h.2
  · rw [show inB n 0 1000000 = false from decide_eq_false h]; exact implTimeNo n w (by omega)
end Go.Proofs.YtefjbnbibmiccaaGreatDoor
namespace Go.Proofs.YtefjbnbibmiccaaGreatDoor
open Go.ChangeShapes Go.WideShapes Go.ChangeAt Go.RowKit
set_option linter.unusedVariables false
def vsB (n0 : Nat) (zA : List TAS) (zl : List TLink) (n1 : Nat) (x0 x1 : Int) (hs : List THop) (n : Nat) : Bool :=
  wfB n0 zl n1 hs n && decide (fiV zA n0 x0 x1 hs n < 0) && !(sgKd n0 zA zl n1 hs n == 0) && inB x0 0 1000000 && inB x1 0 2147483646
def usB (n0 : Nat) (zA : List TAS) (zl : List TLink) (n1 : Nat) (x0 x1 : Int) (hs : List THop) (n : Nat) (t : Int) : Bool :=
  vsB n0 zA zl n1 x0 x1 hs n && segEnds hs n && inB t x0 (segExp hs n)
def ceB (n0 : Nat) (zA : List TAS) (zl : List TLink) (n1 : Nat) (x0 x1 : Int) (hs : List THop) (n : Nat) (r i : Int) : Bool :=
  isAsB n0 r && vsB n0 zA zl n1 x0 x1 hs n && !segEnds hs n && !inUp (nthI (colN THop.nd hs n)) r n && ((remote zl (hs.getD (n - 1) default).nd (hs.getD (n - 1) default).eg n1).1 == r && (remote zl (hs.getD (n - 1) default).nd (hs.getD (n - 1) default).eg n1).2 == i)
theorem vsB_n {n0 : Nat} {zA : List TAS} {zl : List TLink} {n1 : Nat} {x0 x1 : Int} {hs : List THop} {n : Nat} (h : vsB n0 zA zl n1 x0 x1 hs n = true) : 1 ≤ n ∧ n ≤ 8 := by
  unfold vsB at h
  simp only [Bool.and_eq_true] at h
  exact wfB_n h.1.1.1.1
theorem fiV_eq (zA : List TAS) (n0 : Nat) (t b : Int) (hs : List THop) (n : Nat) : (fiV zA n0 t b hs n == -1) = decide (fiV zA n0 t b hs n < 0) := by
  have := fiN_ge (badH zA n0 t b hs) n n
  unfold fiV
  by_cases h : fiN (badH zA n0 t b hs) n n < 0
  · rw [decide_eq_true h, show fiN (badH zA n0 t b hs) n n = -1 by omega]; rfl
  · rw [decide_eq_false h]; exact beq_eq_false_iff_ne.2 (by omega)
set_option maxRecDepth 100000 in
set_option maxHeartbeats 4000000 in
theorem specVSeg (a0 a1 : Option Addr) (n0 c0 n1 c1 B : Nat) (zA : List TAS) (zl : List TLink) (x0 x1 : Int) (a : Option Addr) (n c B' : Nat) (hs : List THop) (w : World) (hA : HasAS w B a0 n0 zA) (hl : HasLink w B a1 n1 zl) (hB : B ≤ w.heap.size) (hn0 : n0 ≤ 1048576) (hn1 : n1 ≤ 1048576) (h : HasHop w B' a n hs) (hB' : B' ≤ w.heap.size) (hn : n ≤ 1048576) (hz : ∀ y ∈ zA, TAS.fits y) (ht : (Lit.int .i64 x0).wf = true) (hb : (Lit.int .i64 x1).wf = true) (hf : ∀ y ∈ hs, THop.fits y) :
    Calls Tryz.prog 8 #[.agg #[.slice a0 n0 c0, .slice a1 n1 c1], .agg #[.int .i64 x0, .int .i64 x1, .slice a n c]] w fun e w' => e = .returned (.bool (vsB n0 zA zl n1 x0 x1 hs n)) ∧ Mk0 w w' := by
  have M0 := (Mk.alloc w (Obj.cells #[Value.slice a0 n0 c0, Value.slice a1 n1 c1] 35)).new (Obj.cells #[Value.int .i64 x0, Value.int .i64 x1, Value.slice a n c] 39)
  have k0 : ((w.alloc (Obj.cells #[Value.slice a0 n0 c0, Value.slice a1 n1 c1] 35)).alloc (Obj.cells #[Value.int .i64 x0, Value.int .i64 x1, Value.slice a n c] 39)).cell? ⟨w.heap.size, 0, none⟩ = some (.slice a0 n0 c0) := by simp [go_sem]
  have k1 : ((w.alloc (Obj.cells #[Value.slice a0 n0 c0, Value.slice a1 n1 c1] 35)).alloc (Obj.cells #[Value.int .i64 x0, Value.int .i64 x1, Value.slice a n c] 39)).cell? ⟨w.heap.size, 1, none⟩ = some (.slice a1 n1 c1) := by simp [go_sem]
  have j0 : ((w.alloc (Obj.cells #[Value.slice a0 n0 c0, Value.slice a1 n1 c1] 35)).alloc (Obj.cells #[Value.int .i64 x0, Value.int .i64 x1, Value.slice a n c] 39)).cell? ⟨w.heap.size + 1, 0, none⟩ = some (.int .i64 x0) := by simp [go_sem]
  have j1 : ((w.alloc (Obj.cells #[Value.slice a0 n0 c0, Value.slice a1 n1 c1] 35)).alloc (Obj.cells #[Value.int .i64 x0, Value.int .i64 x1, Value.slice a n c] 39)).cell? ⟨w.heap.size + 1, 1, none⟩ = some (.int .i64 x1) := by simp [go_sem]
  have j2 : ((w.alloc (Obj.cells #[Value.slice a0 n0 c0, Value.slice a1 n1 c1] 35)).alloc (Obj.cells #[Value.int .i64 x0, Value.int .i64 x1, Value.slice a n c] 39)).cell? ⟨w.heap.size + 1, 2, none⟩ = some (.slice a n c) := by simp [go_sem]
  have HZ := Lib.hid hz
  have HF := Lib.hid hf
  have HT := Lib.hid ht
  have HBT := Lib.hid hb
  clear hz hf ht hb
  go_enter Tryz.func8, Tryz.ntmps8
  go_wp2_with fail
  generalize ((w.alloc (Obj.cells #[Value.slice a0 n0 c0, Value.slice a1 n1 c1] 35)).alloc (Obj.cells #[Value.int .i64 x0, Value.int .i64 x1, Value.slice a n c] 39)) = WW at *
  refine (specWF a0 a1 n0 c0 n1 c1 B zl x0 x1 a n c B' hs _ (hl.mk M0 hB (.inr (Nat.le_refl _))) (Nat.le_trans hB M0.size) hn0 hn1 (h.mk M0 hB' (.inr (Nat.le_refl _))) (Nat.le_trans hB' M0.size) hn).mono ?_
  rintro e w2 ⟨he, m2⟩
  have M2 := M0.trans m2
  cases q1 : wfB n0 zl n1 hs n
  · have HR := Lib.hid (show vsB n0 zA zl n1 x0 x1 hs n = false by unfold vsB; rw [q1]; first | done | rfl | simp)
    rw [q1] at he
    subst he
    clear q1
    go_wp2_with fail
    go_ret
    exact ⟨retB HR.out.symm, M2⟩
  · have Q1 := Lib.hid q1
    rw [q1] at he
    subst he
    clear q1
    replace k0 := m2.cellAt k0
    replace k1 := m2.cellAt k1
    replace j0 := m2.cellAt j0
    replace j1 := m2.cellAt j1
    replace j2 := m2.cellAt j2
    go_wp2_with fail
    refine (specFInv a0 a1 n0 c0 n1 c1 B zA x0 x1 a n c B' hs _ (hA.mk M2 hB (.inr (Nat.le_refl _))) (Nat.le_trans hB M2.size) hn0 (h.mk M2 hB' (.inr (Nat.le_refl _))) (Nat.le_trans hB' M2.size) hn HZ.out HT.out HBT.out HF.out).mono ?_
    rintro e w3 ⟨he, m3⟩
    have M3 := M2.trans m3
    obtain ⟨v, hv⟩ : ∃ v, Hid (v = fiV zA n0 x0 x1 hs n) := ⟨_, Lib.hid rfl⟩
    rw [← hv.out] at he
    subst he
    have Q2 := Lib.hid (show decide (fiV zA n0 x0 x1 hs n < 0) = decide (v < 0) by rw [hv.out])
    clear hv
    cases q2 : decide (v < 0)
    · rw [q2] at Q2
      have HR := Lib.hid (show vsB n0 zA zl n1 x0 x1 hs n = false by unfold vsB; rw [Q1.out, Q2.out]; first | done | rfl | simp)
      go_wp2_with fail
      go_ret
      exact ⟨retB HR.out.symm, M3⟩
    · rw [q2] at Q2
      replace k0 := m3.cellAt k0
      replace k1 := m3.cellAt k1
      replace j0 := m3.cellAt j0
      replace j1 := m3.cellAt j1
      replace j2 := m3.cellAt j2
      go_wp2_with fail
      clear q2
      refine (specSgKind a0 a1 n0 c0 n1 c1 B zA zl x0 x1 a n c B' hs _ (hA.mk M3 hB (.inr (Nat.le_refl _))) (hl.mk M3 hB (.inr (Nat.le_refl _))) (Nat.le_trans hB M3.size) hn0 hn1 (h.mk M3 hB' (.inr (Nat.le_refl _))) (Nat.le_trans hB' M3.size) hn).mono ?_
      rintro e w4 ⟨he, m4⟩
      have M4 := M3.trans m4
      obtain ⟨k, hk⟩ : ∃ k, Hid (k = sgKd n0 zA zl n1 hs n) := ⟨_, Lib.hid rfl⟩
      rw [← hk.out] at he
      subst he
      have Q3 := Lib.hid (show (sgKd n0 zA zl n1 hs n == 0) = !(k != 0) by rw [hk.out]; simp [bne])
      clear hk
      cases q3 : (k != 0)
      · rw [q3] at Q3
        have HR := Lib.hid (show vsB n0 zA zl n1 x0 x1 hs n = false by unfold vsB; rw [Q1.out, Q2.out, Q3.out]; first | done | rfl | simp)
        go_wp2_with fail
        go_ret
        exact ⟨retB HR.out.symm, M4⟩
      · rw [q3] at Q3
        replace k0 := m4.cellAt k0
        replace k1 := m4.cellAt k1
        replace j0 := m4.cellAt j0
        replace j1 := m4.cellAt j1
        replace j2 := m4.cellAt j2
        go_wp2_with fail
        clear q3
        refine (specIn x0 0 1000000 _).mono ?_
        rintro e w' ⟨he, rfl⟩
        cases q4 : inB x0 0 1000000
        · have HR := Lib.hid (show vsB n0 zA zl n1 x0 x1 hs n = false by unfold vsB; rw [Q1.out, Q2.out, Q3.out, q4]; first | done | rfl | simp)
          rw [q4] at he
          subst he
          clear q4
          go_wp2_with fail
          go_ret
          exact ⟨retB HR.out.symm, M4⟩
        · have HR := Lib.hid (show vsB n0 zA zl n1 x0 x1 hs n = inB x1 0 2147483646 by unfold vsB; rw [Q1.out, Q2.out, Q3.out, q4]; first | done | rfl | simp)
          rw [q4] at he
          subst he
          clear q4
          go_wp2_with fail
          refine (specRes x1 _).mono ?_
          rintro e w' ⟨rfl, rfl⟩
          go_wp2_with fail
          go_ret
          exact ⟨retB HR.out.symm, M4⟩

set_option maxRecDepth 100000 in
set_option maxHeartbeats 4000000 in
theorem specUSeg (a0 a1 : Option Addr) (n0 c0 n1 c1 B : Nat) (zA : List TAS) (zl : List TLink) (x0 x1 : Int) (a : Option Addr) (n c B' : Nat) (hs : List THop) (t : Int) (w : World) (hA : HasAS w B a0 n0 zA) (hl : HasLink w B a1 n1 zl) (hB : B ≤ w.heap.size) (hn0 : n0 ≤ 1048576) (hn1 : n1 ≤ 1048576) (h : HasHop w B' a n hs) (hB' : B' ≤ w.heap.size) (hn : n ≤ 1048576) (hz : ∀ y ∈ zA, TAS.fits y) (ht : (Lit.int .i64 x0).wf = true) (hb : (Lit.int .i64 x1).wf = true) (hf : ∀ y ∈ hs, THop.fits y) :
    Calls Tryz.prog 14 #[.agg #[.slice a0 n0 c0, .slice a1 n1 c1], .agg #[.int .i64 x0, .int .i64 x1, .slice a n c], .int .i64 t] w fun e w' => e = .returned (.bool (usB n0 zA zl n1 x0 x1 hs n t)) ∧ Mk0 w w' := by
  have M0 := (Mk.alloc w (Obj.cells #[Value.slice a0 n0 c0, Value.slice a1 n1 c1] 35)).new (Obj.cells #[Value.int .i64 x0, Value.int .i64 x1, Value.slice a n c] 39)
  have k0 : ((w.alloc (Obj.cells #[Value.slice a0 n0 c0, Value.slice a1 n1 c1] 35)).alloc (Obj.cells #[Value.int .i64 x0, Value.int .i64 x1, Value.slice a n c] 39)).cell? ⟨w.heap.size, 0, none⟩ = some (.slice a0 n0 c0) := by simp [go_sem]
  have k1 : ((w.alloc (Obj.cells #[Value.slice a0 n0 c0, Value.slice a1 n1 c1] 35)).alloc (Obj.cells #[Value.int .i64 x0, Value.int .i64 x1, Value.slice a n c] 39)).cell? ⟨w.heap.size, 1, none⟩ = some (.slice a1 n1 c1) := by simp [go_sem]
  have j0 : ((w.alloc (Obj.cells #[Value.slice a0 n0 c0, Value.slice a1 n1 c1] 35)).alloc (Obj.cells #[Value.int .i64 x0, Value.int .i64 x1, Value.slice a n c] 39)).cell? ⟨w.heap.size + 1, 0, none⟩ = some (.int .i64 x0) := by simp [go_sem]
  have j1 : ((w.alloc (Obj.cells #[Value.slice a0 n0 c0, Value.slice a1 n1 c1] 35)).alloc (Obj.cells #[Value.int .i64 x0, Value.int .i64 x1, Value.slice a n c] 39)).cell? ⟨w.heap.size + 1, 1, none⟩ = some (.int .i64 x1) := by simp [go_sem]
  have j2 : ((w.alloc (Obj.cells #[Value.slice a0 n0 c0, Value.slice a1 n1 c1] 35)).alloc (Obj.cells #[Value.int .i64 x0, Value.int .i64 x1, Value.slice a n c] 39)).cell? ⟨w.heap.size + 1, 2, none⟩ = some (.slice a n c) := by simp [go_sem]
  have HZ := Lib.hid hz
  have HF := Lib.hid hf
  have HT := Lib.hid ht
  have HBT := Lib.hid hb
  clear hz hf ht hb
  go_enter Tryz.func14, Tryz.ntmps14
  go_wp2_with fail
  generalize ((w.alloc (Obj.cells #[Value.slice a0 n0 c0, Value.slice a1 n1 c1] 35)).alloc (Obj.cells #[Value.int .i64 x0, Value.int .i64 x1, Value.slice a n c] 39)) = WW at *
  refine (specVSeg a0 a1 n0 c0 n1 c1 B zA zl x0 x1 a n c B' hs _ (hA.mk M0 hB (.inr (Nat.le_refl _))) (hl.mk M0 hB (.inr (Nat.le_refl _))) (Nat.le_trans hB M0.size) hn0 hn1 (h.mk M0 hB' (.inr (Nat.le_refl _))) (Nat.le_trans hB' M0.size) hn HZ.out HT.out HBT.out HF.out).mono ?_
  rintro e w2 ⟨he, m2⟩
  have M2 := M0.trans m2
  cases q1 : vsB n0 zA zl n1 x0 x1 hs n
  · have HR := Lib.hid (show usB n0 zA zl n1 x0 x1 hs n t = false by unfold usB; rw [q1]; first | done | rfl | simp)
    rw [q1] at he
    subst he
    clear q1
    go_wp2_with fail
    go_ret
    exact ⟨retB HR.out.symm, M2⟩
  · have Q1 := Lib.hid q1
    rw [q1] at he
    subst he
    clear q1
    replace k0 := m2.cellAt k0
    replace k1 := m2.cellAt k1
    replace j0 := m2.cellAt j0
    replace j1 := m2.cellAt j1
    replace j2 := m2.cellAt j2
    go_wp2_with fail
    refine (specTermd x0 x1 a n c B' hs _ (h.mk M2 hB' (.inr (Nat.le_refl _))) (Nat.le_trans hB' M2.size) hn).mono ?_
    rintro e w3 ⟨he, m3⟩
    have M3 := M2.trans m3
    cases q2 : segEnds hs n
    · have HR := Lib.hid (show usB n0 zA zl n1 x0 x1 hs n t = false by unfold usB; rw [Q1.out, q2]; first | done | rfl | simp)
      rw [q2] at he
      subst he
      clear q2
      go_wp2_with fail
      go_ret
      exact ⟨retB HR.out.symm, M3⟩
    · have Q2 := Lib.hid q2
      rw [q2] at he
      subst he
      clear q2
      replace k0 := m3.cellAt k0
      replace k1 := m3.cellAt k1
      replace j0 := m3.cellAt j0
      replace j1 := m3.cellAt j1
      replace j2 := m3.cellAt j2
      cases q3 : decide (x0 ≤ t)
      · have HR := Lib.hid (show usB n0 zA zl n1 x0 x1 hs n t = false by unfold usB; rw [Q1.out, Q2.out]; exact decide_eq_false fun h => (of_decide_eq_false q3) h.1)
        go_wp2_with fail
        go_ret
        exact ⟨retB HR.out.symm, M3⟩
      · have HR := Lib.hid (show usB n0 zA zl n1 x0 x1 hs n t = decide (t ≤ segExp hs n) by unfold usB; rw [Q1.out, Q2.out]; exact decide_eq_decide.2 ⟨fun h => h.2, fun h => ⟨of_decide_eq_true q3, h⟩⟩)
        go_wp2_with fail
        clear q3
        refine (specExpiry x0 x1 a n c B' hs _ (h.mk M3 hB' (.inr (Nat.le_refl _))) (Nat.le_trans hB' M3.size) hn).mono ?_
        rintro e w4 ⟨rfl, m4⟩
        have M4 := M3.trans m4
        go_wp2_with fail
        go_ret
        exact ⟨retB HR.out.symm, M4⟩

set_option maxRecDepth 100000 in
set_option maxHeartbeats 4000000 in
theorem implVSeg (a0 a1 : Option Addr) (n0 c0 n1 c1 B : Nat) (zA : List TAS) (zl : List TLink) (x0 x1 : Int) (a : Option Addr) (n c B' : Nat) (hs : List THop) (w : World) (hA : HasAS w B a0 n0 zA) (hl : HasLink w B a1 n1 zl) (hB : B ≤ w.heap.size) (hn0 : n0 ≤ 1048576) (hn1 : n1 ≤ 1048576) (h : HasHop w B' a n hs) (hB' : B' ≤ w.heap.size) (hn : n ≤ 1048576) (hz : ∀ y ∈ zA, TAS.fits y) (ht : (Lit.int .i64 x0).wf = true) (hb : (Lit.int .i64 x1).wf = true) (hf : ∀ y ∈ hs, THop.fits y) (hg : w.cell? ⟨0, 0, none⟩ = some (.iface 131 (.agg #[.pointer (some ⟨1, 96, none⟩)]))) :
    Calls Tryz.prog 11 #[.agg #[.slice a0 n0 c0, .slice a1 n1 c1], .agg #[.int .i64 x0, .int .i64 x1, .slice a n c]] w fun e w' => e = .returned (.bool (vsB n0 zA zl n1 x0 x1 hs n)) ∧ Mk0 w w' := by
  have M0 := (Mk.alloc w (Obj.cells #[Value.slice a0 n0 c0, Value.slice a1 n1 c1] 35)).new (Obj.cells #[Value.int .i64 x0, Value.int .i64 x1, Value.slice a n c] 39)
  have k0 : ((w.alloc (Obj.cells #[Value.slice a0 n0 c0, Value.slice a1 n1 c1] 35)).alloc (Obj.cells #[Value.int .i64 x0, Value.int .i64 x1, Value.slice a n c] 39)).cell? ⟨w.heap.size, 0, none⟩ = some (.slice a0 n0 c0) := by simp [go_sem]
  have k1 : ((w.alloc (Obj.cells #[Value.slice a0 n0 c0, Value.slice a1 n1 c1] 35)).alloc (Obj.cells #[Value.int .i64 x0, Value.int .i64 x1, Value.slice a n c] 39)).cell? ⟨w.heap.size, 1, none⟩ = some (.slice a1 n1 c1) := by simp [go_sem]
  have j0 : ((w.alloc (Obj.cells #[Value.slice a0 n0 c0, Value.slice a1 n1 c1] 35)).alloc (Obj.cells #[Value.int .i64 x0, Value.int .i64 x1, Value.slice a n c] 39)).cell? ⟨w.heap.size + 1, 0, none⟩ = some (.int .i64 x0) := by simp [go_sem]
  have j1 : ((w.alloc (Obj.cells #[Value.slice a0 n0 c0, Value.slice a1 n1 c1] 35)).alloc (Obj.cells #[Value.int .i64 x0, Value.int .i64 x1, Value.slice a n c] 39)).cell? ⟨w.heap.size + 1, 1, none⟩ = some (.int .i64 x1) := by simp [go_sem]
  have j2 : ((w.alloc (Obj.cells #[Value.slice a0 n0 c0, Value.slice a1 n1 c1] 35)).alloc (Obj.cells #[Value.int .i64 x0, Value.int .i64 x1, Value.slice a n c] 39)).cell? ⟨w.heap.size + 1, 2, none⟩ = some (.slice a n c) := by simp [go_sem]
  have HZ := Lib.hid hz
  have HF := Lib.hid hf
  have HT := Lib.hid ht
  have HBT := Lib.hid hb
  clear hz hf ht hb
  replace hg := M0.cellAt hg
  go_enter Tryz.func11, Tryz.ntmps11
  go_wp2_with fail
  generalize ((w.alloc (Obj.cells #[Value.slice a0 n0 c0, Value.slice a1 n1 c1] 35)).alloc (Obj.cells #[Value.int .i64 x0, Value.int .i64 x1, Value.slice a n c] 39)) = WW at *
  refine (implWF a0 a1 n0 c0 n1 c1 B zl x0 x1 a n c B' hs _ (hl.mk M0 hB (.inr (Nat.le_refl _))) (Nat.le_trans hB M0.size) hn0 hn1 (h.mk M0 hB' (.inr (Nat.le_refl _))) (Nat.le_trans hB' M0.size) hn).mono ?_
  rintro e w2 ⟨he, m2⟩
  have M2 := M0.trans m2
  cases q1 : wfB n0 zl n1 hs n
  · have HR := Lib.hid (show vsB n0 zA zl n1 x0 x1 hs n = false by unfold vsB; rw [q1]; first | done | rfl | simp)
    rw [q1] at he
    subst he
    clear q1
    go_wp2_with fail
    go_ret
    exact ⟨retB HR.out.symm, M2⟩
  · have Q1 := Lib.hid q1
    rw [q1] at he
    subst he
    clear q1
    replace k0 := m2.cellAt k0
    replace k1 := m2.cellAt k1
    replace j0 := m2.cellAt j0
    replace j1 := m2.cellAt j1
    replace j2 := m2.cellAt j2
    replace hg := m2.cellAt hg
    go_wp2_with fail
    refine (implFInv a0 a1 n0 c0 n1 c1 B zA x0 x1 a n c B' hs _ (hA.mk M2 hB (.inr (Nat.le_refl _))) (Nat.le_trans hB M2.size) hn0 (h.mk M2 hB' (.inr (Nat.le_refl _))) (Nat.le_trans hB' M2.size) hn HZ.out HT.out HBT.out HF.out hg).mono ?_
    rintro e w3 ⟨he, m3⟩
    have M3 := M2.trans m3
    obtain ⟨v, hv⟩ : ∃ v, Hid (v = fiV zA n0 x0 x1 hs n) := ⟨_, Lib.hid rfl⟩
    rw [← hv.out] at he
    subst he
    have Q2 := Lib.hid (show decide (fiV zA n0 x0 x1 hs n < 0) = (v == -1) by rw [hv.out]; exact (fiV_eq _ _ _ _ _ _).symm)
    clear hv
    cases q2 : (v == -1)
    · rw [q2] at Q2
      have HR := Lib.hid (show vsB n0 zA zl n1 x0 x1 hs n = false by unfold vsB; rw [Q1.out, Q2.out]; first | done | rfl | simp)
      go_wp2_with fail
      go_ret
      exact ⟨retB HR.out.symm, M3⟩
    · rw [q2] at Q2
      replace k0 := m3.cellAt k0
      replace k1 := m3.cellAt k1
      replace j0 := m3.cellAt j0
      replace j1 := m3.cellAt j1
      replace j2 := m3.cellAt j2
      replace hg := m3.cellAt hg
      go_wp2_with fail
      clear q2
      refine (implSgKind a0 a1 n0 c0 n1 c1 B zA zl x0 x1 a n c B' hs _ (hA.mk M3 hB (.inr (Nat.le_refl _))) (hl.mk M3 hB (.inr (Nat.le_refl _))) (Nat.le_trans hB M3.size) hn0 hn1 (h.mk M3 hB' (.inr (Nat.le_refl _))) (Nat.le_trans hB' M3.size) hn).mono ?_
      rintro e w4 ⟨he, m4⟩
      have M4 := M3.trans m4
      obtain ⟨k, hk⟩ : ∃ k, Hid (k = sgKd n0 zA zl n1 hs n) := ⟨_, Lib.hid rfl⟩
      rw [← hk.out] at he
      subst he
      have Q3 := Lib.hid (show (sgKd n0 zA zl n1 hs n == 0) = !(k != 0) by rw [hk.out]; simp [bne])
      clear hk
      cases q3 : (k != 0)
      · rw [q3] at Q3
        have HR := Lib.hid (show vsB n0 zA zl n1 x0 x1 hs n = false by unfold vsB; rw [Q1.out, Q2.out, Q3.out]; first | done | rfl | simp)
        go_wp2_with fail
        go_ret
        exact ⟨retB HR.out.symm, M4⟩
      · rw [q3] at Q3
        replace k0 := m4.cellAt k0
        replace k1 := m4.cellAt k1
        replace j0 := m4.cellAt j0
        replace j1 := m4.cellAt j1
        replace j2 := m4.cellAt j2
        replace hg := m4.cellAt hg
        go_wp2_with fail
        clear q3
        refine (implTime x0 _).mono ?_
        rintro e w' ⟨he, rfl⟩
        cases q4 : inB x0 0 1000000
        · have HR := Lib.hid (show vsB n0 zA zl n1 x0 x1 hs n = false by unfold vsB; rw [Q1.out, Q2.out, Q3.out, q4]; first | done | rfl | simp)
          rw [q4] at he
          subst he
          clear q4
          go_wp2_with fail
          go_ret
          exact ⟨retB HR.out.symm, M4⟩
        · have HR := Lib.hid (show vsB n0 zA zl n1 x0 x1 hs n = inB x1 0 2147483646 by unfold vsB; rw [Q1.out, Q2.out, Q3.out, q4]; first | done | rfl | simp)
          rw [q4] at he
          subst he
          clear q4
          go_wp2_with fail
          refine (implRes x1 _).mono ?_
          rintro e w' ⟨rfl, rfl⟩
          go_wp2_with fail
          go_ret
          exact ⟨retB HR.out.symm, M4⟩

set_option maxRecDepth 100000 in
set_option maxHeartbeats 4000000 in
theorem implUSeg (a0 a1 : Option Addr) (n0 c0 n1 c1 B : Nat) (zA : List TAS) (zl : List TLink) (x0 x1 : Int) (a : Option Addr) (n c B' : Nat) (hs : List THop) (t : Int) (w : World) (hA : HasAS w B a0 n0 zA) (hl : HasLink w B a1 n1 zl) (hB : B ≤ w.heap.size) (hn0 : n0 ≤ 1048576) (hn1 : n1 ≤ 1048576) (h : HasHop w B' a n hs) (hB' : B' ≤ w.heap.size) (hn : n ≤ 1048576) (hz : ∀ y ∈ zA, TAS.fits y) (ht : (Lit.int .i64 x0).wf = true) (hb : (Lit.int .i64 x1).wf = true) (hf : ∀ y ∈ hs, THop.fits y) (hg : w.cell? ⟨0, 0, none⟩ = some (.iface 131 (.agg #[.pointer (some ⟨1, 96, none⟩)]))) :
    Calls Tryz.prog 15 #[.agg #[.slice a0 n0 c0, .slice a1 n1 c1], .agg #[.int .i64 x0, .int .i64 x1, .slice a n c], .int .i64 t] w fun e w' => e = .returned (.bool (usB n0 zA zl n1 x0 x1 hs n t)) ∧ Mk0 w w' := by
  have M0 := (Mk.alloc w (Obj.cells #[Value.slice a0 n0 c0, Value.slice a1 n1 c1] 35)).new (Obj.cells #[Value.int .i64 x0, Value.int .i64 x1, Value.slice a n c] 39)
  have k0 : ((w.alloc (Obj.cells #[Value.slice a0 n0 c0, Value.slice a1 n1 c1] 35)).alloc (Obj.cells #[Value.int .i64 x0, Value.int .i64 x1, Value.slice a n c] 39)).cell? ⟨w.heap.size, 0, none⟩ = some (.slice a0 n0 c0) := by simp [go_sem]
  have k1 : ((w.alloc (Obj.cells #[Value.slice a0 n0 c0, Value.slice a1 n1 c1] 35)).alloc (Obj.cells #[Value.int .i64 x0, Value.int .i64 x1, Value.slice a n c] 39)).cell? ⟨w.heap.size, 1, none⟩ = some (.slice a1 n1 c1) := by simp [go_sem]
  have j0 : ((w.alloc (Obj.cells #[Value.slice a0 n0 c0, Value.slice a1 n1 c1] 35)).alloc (Obj.cells #[Value.int .i64 x0, Value.int .i64 x1, Value.slice a n c] 39)).cell? ⟨w.heap.size + 1, 0, none⟩ = some (.int .i64 x0) := by simp [go_sem]
  have j1 : ((w.alloc (Obj.cells #[Value.slice a0 n0 c0, Value.slice a1 n1 c1] 35)).alloc (Obj.cells #[Value.int .i64 x0, Value.int .i64 x1, Value.slice a n c] 39)).cell? ⟨w.heap.size + 1, 1, none⟩ = some (.int .i64 x1) := by simp [go_sem]
  have j2 : ((w.alloc (Obj.cells #[Value.slice a0 n0 c0, Value.slice a1 n1 c1] 35)).alloc (Obj.cells #[Value.int .i64 x0, Value.int .i64 x1, Value.slice a n c] 39)).cell? ⟨w.heap.size + 1, 2, none⟩ = some (.slice a n c) := by simp [go_sem]
  have HZ := Lib.hid hz
  have HF := Lib.hid hf
  have HT := Lib.hid ht
  have HBT := Lib.hid hb
  clear hz hf ht hb
  replace hg := M0.cellAt hg
  go_enter Tryz.func15, Tryz.ntmps15
  go_wp2_with fail
  generalize ((w.alloc (Obj.cells #[Value.slice a0 n0 c0, Value.slice a1 n1 c1] 35)).alloc (Obj.cells #[Value.int .i64 x0, Value.int .i64 x1, Value.slice a n c] 39)) = WW at *
  have HM0 := Lib.hid M0
  cases q1 : vsB n0 zA zl n1 x0 x1 hs n
  · have Q1 := Lib.hid q1
    have HR := Lib.hid (show usB n0 zA zl n1 x0 x1 hs n t = false by unfold usB; rw [q1]; first | done | rfl | simp)
    clear q1
    refine wp_region_wk (fun w' => Mk0 WW w' ∧ w'.cell? ⟨w.heap.size, 0, none⟩ = some (.slice a0 n0 c0) ∧ w'.cell? ⟨w.heap.size, 1, none⟩ = some (.slice a1 n1 c1) ∧ w'.cell? ⟨w.heap.size + 1, 0, none⟩ = some (.int .i64 x0) ∧ w'.cell? ⟨w.heap.size + 1, 1, none⟩ = some (.int .i64 x1) ∧ w'.cell? ⟨w.heap.size + 1, 2, none⟩ = some (.slice a n c) ∧ w'.cell? ⟨0, 0, none⟩ = some (.iface 131 (.agg #[.pointer (some ⟨1, 96, none⟩)]))) (by kernel_rfl) (by kernel_rfl) (⟨Mk.drew1 _, k0, k1, j0, j1, j2, hg⟩) ?_
    change Wk _ _ _ _ 16 0 _
    first | (refine Wk.skip (m := 15) (k := 0) rfl (by rfl) ?_) | (refine Wk.step (m := 15) (k := 0) (v := _) rfl (by rfl) (fun wv hS => by obtain ⟨s0, s1, s2, s3, s4, s5, s6⟩ := hS; go_simp; try with_reducible rfl) ?_)
    try simp only [Act.put, List.getElem_toArray, List.getElem_cons_zero, List.setIfInBounds_toArray, List.set_cons_zero, List.set_cons_succ]
    first | (refine Wk.skip (m := 14) (k := 1) rfl (by rfl) ?_) | (refine Wk.step (m := 14) (k := 1) (v := _) rfl (by rfl) (fun wv hS => by obtain ⟨s0, s1, s2, s3, s4, s5, s6⟩ := hS; go_simp; try with_reducible rfl) ?_)
    try simp only [Act.put, List.getElem_toArray, List.getElem_cons_succ, List.getElem_cons_zero, List.setIfInBounds_toArray, List.set_cons_zero, List.set_cons_succ]
    refine Wk.call (m := 13) (k := 2) (v := .bool false) _ _ rfl (by rfl) (fun wv hS => by obtain ⟨s0, s1, s2, s3, s4, s5, s6⟩ := hS; go_simp; first | done | exact ⟨rfl, rfl⟩ | with_reducible rfl) (fun wv hS => ?_) ?_; · obtain ⟨s0, s1, s2, s3, s4, s5, s6⟩ := hS; refine (implVSeg a0 a1 n0 c0 n1 c1 B zA zl x0 x1 a n c B' hs _ (hA.mk (HM0.out.trans s0) hB (.inr (Nat.le_refl _))) (hl.mk (HM0.out.trans s0) hB (.inr (Nat.le_refl _))) (Nat.le_trans hB (HM0.out.trans s0).size) hn0 hn1 (h.mk (HM0.out.trans s0) hB' (.inr (Nat.le_refl _))) (Nat.le_trans hB' (HM0.out.trans s0).size) hn HZ.out HT.out HBT.out HF.out s6).mono ?_; rintro e w' ⟨he, mm⟩; exact ⟨by rw [he, Q1.out], ⟨s0.trans mm, mm.cellAt s1, mm.cellAt s2, mm.cellAt s3, mm.cellAt s4, mm.cellAt s5, mm.cellAt s6⟩⟩
    try simp only [Act.put, List.getElem_toArray, List.getElem_cons_succ, List.getElem_cons_zero, List.setIfInBounds_toArray, List.set_cons_zero, List.set_cons_succ]
    first | (refine Wk.skip (m := 12) (k := 3) rfl (by rfl) ?_) | (refine Wk.step (m := 12) (k := 3) (v := _) rfl (by rfl) (fun wv hS => by obtain ⟨s0, s1, s2, s3, s4, s5, s6⟩ := hS; go_simp; try with_reducible rfl) ?_)
    try simp only [Act.put, List.getElem_toArray, List.getElem_cons_succ, List.getElem_cons_zero, List.setIfInBounds_toArray, List.set_cons_zero, List.set_cons_succ]
    first | (refine Wk.skip (m := 11) (k := 4) rfl (by rfl) ?_) | (refine Wk.step (m := 11) (k := 4) (v := _) rfl (by rfl) (fun wv hS => by obtain ⟨s0, s1, s2, s3, s4, s5, s6⟩ := hS; go_simp; try with_reducible rfl) ?_)
    try simp only [Act.put, List.getElem_toArray, List.getElem_cons_succ, List.getElem_cons_zero, List.setIfInBounds_toArray, List.set_cons_zero, List.set_cons_succ]
    refine Wk.skip (m := 10) (k := 5) rfl (by rfl) ?_
    try simp only [Act.put, List.getElem_toArray, List.getElem_cons_succ, List.getElem_cons_zero, List.setIfInBounds_toArray, List.set_cons_zero, List.set_cons_succ]
    first | (refine Wk.skip (m := 9) (k := 6) rfl (by rfl) ?_) | (refine Wk.step (m := 9) (k := 6) (v := _) rfl (by rfl) (fun wv hS => by obtain ⟨s0, s1, s2, s3, s4, s5, s6⟩ := hS; go_simp; try with_reducible rfl) ?_)
    try simp only [Act.put, List.getElem_toArray, List.getElem_cons_succ, List.getElem_cons_zero, List.setIfInBounds_toArray, List.set_cons_zero, List.set_cons_succ]
    first | (refine Wk.skip (m := 8) (k := 7) rfl (by rfl) ?_) | (refine Wk.step (m := 8) (k := 7) (v := _) rfl (by rfl) (fun wv hS => by obtain ⟨s0, s1, s2, s3, s4, s5, s6⟩ := hS; go_simp; try with_reducible rfl) ?_)
    try simp only [Act.put, List.getElem_toArray, List.getElem_cons_succ, List.getElem_cons_zero, List.setIfInBounds_toArray, List.set_cons_zero, List.set_cons_succ]
    first | (refine Wk.skip (m := 7) (k := 8) rfl (by rfl) ?_) | (refine Wk.step (m := 7) (k := 8) (v := _) rfl (by rfl) (fun wv hS => by obtain ⟨s0, s1, s2, s3, s4, s5, s6⟩ := hS; go_simp; try with_reducible rfl) ?_)
    try simp only [Act.put, List.getElem_toArray, List.getElem_cons_succ, List.getElem_cons_zero, List.setIfInBounds_toArray, List.set_cons_zero, List.set_cons_succ]
    first | (refine Wk.skip (m := 6) (k := 9) rfl (by rfl) ?_) | (refine Wk.step (m := 6) (k := 9) (v := _) rfl (by rfl) (fun wv hS => by obtain ⟨s0, s1, s2, s3, s4, s5, s6⟩ := hS; go_simp; try with_reducible rfl) ?_)
    try simp only [Act.put, List.getElem_toArray, List.getElem_cons_succ, List.getElem_cons_zero, List.setIfInBounds_toArray, List.set_cons_zero, List.set_cons_succ]
    first | (refine Wk.skip (m := 5) (k := 10) rfl (by rfl) ?_) | (refine Wk.step (m := 5) (k := 10) (v := _) rfl (by rfl) (fun wv hS => by obtain ⟨s0, s1, s2, s3, s4, s5, s6⟩ := hS; go_simp; try with_reducible rfl) ?_)
    try simp only [Act.put, List.getElem_toArray, List.getElem_cons_succ, List.getElem_cons_zero, List.setIfInBounds_toArray, List.set_cons_zero, List.set_cons_succ]
    first | (refine Wk.skip (m := 4) (k := 11) rfl (by rfl) ?_) | (refine Wk.step (m := 4) (k := 11) (v := _) rfl (by rfl) (fun wv hS => by obtain ⟨s0, s1, s2, s3, s4, s5, s6⟩ := hS; go_simp; try with_reducible rfl) ?_)
    try simp only [Act.put, List.getElem_toArray, List.getElem_cons_succ, List.getElem_cons_zero, List.setIfInBounds_toArray, List.set_cons_zero, List.set_cons_succ]
    refine Wk.skip (m := 3) (k := 12) rfl (by rfl) ?_
    try simp only [Act.put, List.getElem_toArray, List.getElem_cons_succ, List.getElem_cons_zero, List.setIfInBounds_toArray, List.set_cons_zero, List.set_cons_succ]
    refine Wk.skip (m := 2) (k := 13) rfl (by rfl) ?_
    try simp only [Act.put, List.getElem_toArray, List.getElem_cons_succ, List.getElem_cons_zero, List.setIfInBounds_toArray, List.set_cons_zero, List.set_cons_succ]
    first | (refine Wk.skip (m := 1) (k := 14) rfl (by rfl) ?_) | (refine Wk.step (m := 1) (k := 14) (v := _) rfl (by rfl) (fun wv hS => by obtain ⟨s0, s1, s2, s3, s4, s5, s6⟩ := hS; go_simp; try with_reducible rfl) ?_)
    try simp only [Act.put, List.getElem_toArray, List.getElem_cons_succ, List.getElem_cons_zero, List.setIfInBounds_toArray, List.set_cons_zero, List.set_cons_succ]
    first | (refine Wk.skip (m := 0) (k := 15) rfl (by rfl) ?_) | (refine Wk.step (m := 0) (k := 15) (v := _) rfl (by rfl) (fun wv hS => by obtain ⟨s0, s1, s2, s3, s4, s5, s6⟩ := hS; go_simp; try with_reducible rfl) ?_)
    try simp only [Act.put, List.getElem_toArray, List.getElem_cons_succ, List.getElem_cons_zero, List.setIfInBounds_toArray, List.set_cons_zero, List.set_cons_succ]
    refine Wk.done fun wE hE => ?_
    clear k0 k1 j0 j1 j2 hg
    obtain ⟨mE, k0, k1, j0, j1, j2, hg⟩ := hE
    go_wp2_with fail
    go_ret
    exact ⟨retB HR.out.symm, HM0.out.trans mE⟩
  · have Q1 := Lib.hid q1
    clear q1
    cases q2 : segEnds hs n
    · have Q2 := Lib.hid q2
      have HR := Lib.hid (show usB n0 zA zl n1 x0 x1 hs n t = false by unfold usB; rw [Q1.out, q2]; first | done | rfl | simp)
      clear q2
      refine wp_region_wk (fun w' => Mk0 WW w' ∧ w'.cell? ⟨w.heap.size, 0, none⟩ = some (.slice a0 n0 c0) ∧ w'.cell? ⟨w.heap.size, 1, none⟩ = some (.slice a1 n1 c1) ∧ w'.cell? ⟨w.heap.size + 1, 0, none⟩ = some (.int .i64 x0) ∧ w'.cell? ⟨w.heap.size + 1, 1, none⟩ = some (.int .i64 x1) ∧ w'.cell? ⟨w.heap.size + 1, 2, none⟩ = some (.slice a n c) ∧ w'.cell? ⟨0, 0, none⟩ = some (.iface 131 (.agg #[.pointer (some ⟨1, 96, none⟩)]))) (by kernel_rfl) (by kernel_rfl) (⟨Mk.drew1 _, k0, k1, j0, j1, j2, hg⟩) ?_
      change Wk _ _ _ _ 16 0 _
      first | (refine Wk.skip (m := 15) (k := 0) rfl (by rfl) ?_) | (refine Wk.step (m := 15) (k := 0) (v := _) rfl (by rfl) (fun wv hS => by obtain ⟨s0, s1, s2, s3, s4, s5, s6⟩ := hS; go_simp; try with_reducible rfl) ?_)
      try simp only [Act.put, List.getElem_toArray, List.getElem_cons_zero, List.setIfInBounds_toArray, List.set_cons_zero, List.set_cons_succ]
      first | (refine Wk.skip (m := 14) (k := 1) rfl (by rfl) ?_) | (refine Wk.step (m := 14) (k := 1) (v := _) rfl (by rfl) (fun wv hS => by obtain ⟨s0, s1, s2, s3, s4, s5, s6⟩ := hS; go_simp; try with_reducible rfl) ?_)
      try simp only [Act.put, List.getElem_toArray, List.getElem_cons_succ, List.getElem_cons_zero, List.setIfInBounds_toArray, List.set_cons_zero, List.set_cons_succ]
      refine Wk.call (m := 13) (k := 2) (v := .bool true) _ _ rfl (by rfl) (fun wv hS => by obtain ⟨s0, s1, s2, s3, s4, s5, s6⟩ := hS; go_simp; first | done | exact ⟨rfl, rfl⟩ | with_reducible rfl) (fun wv hS => ?_) ?_; · obtain ⟨s0, s1, s2, s3, s4, s5, s6⟩ := hS; refine (implVSeg a0 a1 n0 c0 n1 c1 B zA zl x0 x1 a n c B' hs _ (hA.mk (HM0.out.trans s0) hB (.inr (Nat.le_refl _))) (hl.mk (HM0.out.trans s0) hB (.inr (Nat.le_refl _))) (Nat.le_trans hB (HM0.out.trans s0).size) hn0 hn1 (h.mk (HM0.out.trans s0) hB' (.inr (Nat.le_refl _))) (Nat.le_trans hB' (HM0.out.trans s0).size) hn HZ.out HT.out HBT.out HF.out s6).mono ?_; rintro e w' ⟨he, mm⟩; exact ⟨by rw [he, Q1.out], ⟨s0.trans mm, mm.cellAt s1, mm.cellAt s2, mm.cellAt s3, mm.cellAt s4, mm.cellAt s5, mm.cellAt s6⟩⟩
      try simp only [Act.put, List.getElem_toArray, List.getElem_cons_succ, List.getElem_cons_zero, List.setIfInBounds_toArray, List.set_cons_zero, List.set_cons_succ]
      first | (refine Wk.skip (m := 12) (k := 3) rfl (by rfl) ?_) | (refine Wk.step (m := 12) (k := 3) (v := _) rfl (by rfl) (fun wv hS => by obtain ⟨s0, s1, s2, s3, s4, s5, s6⟩ := hS; go_simp; try with_reducible rfl) ?_)
      try simp only [Act.put, List.getElem_toArray, List.getElem_cons_succ, List.getElem_cons_zero, List.setIfInBounds_toArray, List.set_cons_zero, List.set_cons_succ]
      first | (refine Wk.skip (m := 11) (k := 4) rfl (by rfl) ?_) | (refine Wk.step (m := 11) (k := 4) (v := _) rfl (by rfl) (fun wv hS => by obtain ⟨s0, s1, s2, s3, s4, s5, s6⟩ := hS; go_simp; try with_reducible rfl) ?_)
      try simp only [Act.put, List.getElem_toArray, List.getElem_cons_succ, List.getElem_cons_zero, List.setIfInBounds_toArray, List.set_cons_zero, List.set_cons_succ]
      refine Wk.call (m := 10) (k := 5) (v := .bool false) _ _ rfl (by rfl) (fun wv hS => by obtain ⟨s0, s1, s2, s3, s4, s5, s6⟩ := hS; go_simp; first | done | exact ⟨rfl, rfl⟩ | with_reducible rfl) (fun wv hS => ?_) ?_; · obtain ⟨s0, s1, s2, s3, s4, s5, s6⟩ := hS; refine (implTermd x0 x1 a n c B' hs _ (h.mk (HM0.out.trans s0) hB' (.inr (Nat.le_refl _))) (Nat.le_trans hB' (HM0.out.trans s0).size) hn).mono ?_; rintro e w' ⟨he, mm⟩; exact ⟨by rw [he, Q2.out], ⟨s0.trans mm, mm.cellAt s1, mm.cellAt s2, mm.cellAt s3, mm.cellAt s4, mm.cellAt s5, mm.cellAt s6⟩⟩
      try simp only [Act.put, List.getElem_toArray, List.getElem_cons_succ, List.getElem_cons_zero, List.setIfInBounds_toArray, List.set_cons_zero, List.set_cons_succ]
      first | (refine Wk.skip (m := 9) (k := 6) rfl (by rfl) ?_) | (refine Wk.step (m := 9) (k := 6) (v := _) rfl (by rfl) (fun wv hS => by obtain ⟨s0, s1, s2, s3, s4, s5, s6⟩ := hS; go_simp; try with_reducible rfl) ?_)
      try simp only [Act.put, List.getElem_toArray, List.getElem_cons_succ, List.getElem_cons_zero, List.setIfInBounds_toArray, List.set_cons_zero, List.set_cons_succ]
      first | (refine Wk.skip (m := 8) (k := 7) rfl (by rfl) ?_) | (refine Wk.step (m := 8) (k := 7) (v := _) rfl (by rfl) (fun wv hS => by obtain ⟨s0, s1, s2, s3, s4, s5, s6⟩ := hS; go_simp; try with_reducible rfl) ?_)
      try simp only [Act.put, List.getElem_toArray, List.getElem_cons_succ, List.getElem_cons_zero, List.setIfInBounds_toArray, List.set_cons_zero, List.set_cons_succ]
      first | (refine Wk.skip (m := 7) (k := 8) rfl (by rfl) ?_) | (refine Wk.step (m := 7) (k := 8) (v := _) rfl (by rfl) (fun wv hS => by obtain ⟨s0, s1, s2, s3, s4, s5, s6⟩ := hS; go_simp; try with_reducible rfl) ?_)
      try simp only [Act.put, List.getElem_toArray, List.getElem_cons_succ, List.getElem_cons_zero, List.setIfInBounds_toArray, List.set_cons_zero, List.set_cons_succ]
      first | (refine Wk.skip (m := 6) (k := 9) rfl (by rfl) ?_) | (refine Wk.step (m := 6) (k := 9) (v := _) rfl (by rfl) (fun wv hS => by obtain ⟨s0, s1, s2, s3, s4, s5, s6⟩ := hS; go_simp; try with_reducible rfl) ?_)
      try simp only [Act.put, List.getElem_toArray, List.getElem_cons_succ, List.getElem_cons_zero, List.setIfInBounds_toArray, List.set_cons_zero, List.set_cons_succ]
      first | (refine Wk.skip (m := 5) (k := 10) rfl (by rfl) ?_) | (refine Wk.step (m := 5) (k := 10) (v := _) rfl (by rfl) (fun wv hS => by obtain ⟨s0, s1, s2, s3, s4, s5, s6⟩ := hS; go_simp; try with_reducible rfl) ?_)
      try simp only [Act.put, List.getElem_toArray, List.getElem_cons_succ, List.getElem_cons_zero, List.setIfInBounds_toArray, List.set_cons_zero, List.set_cons_succ]
      first | (refine Wk.skip (m := 4) (k := 11) rfl (by rfl) ?_) | (refine Wk.step (m := 4) (k := 11) (v := _) rfl (by rfl) (fun wv hS => by obtain ⟨s0, s1, s2, s3, s4, s5, s6⟩ := hS; go_simp; try with_reducible rfl) ?_)
      try simp only [Act.put, List.getElem_toArray, List.getElem_cons_succ, List.getElem_cons_zero, List.setIfInBounds_toArray, List.set_cons_zero, List.set_cons_succ]
      refine Wk.skip (m := 3) (k := 12) rfl (by rfl) ?_
      try simp only [Act.put, List.getElem_toArray, List.getElem_cons_succ, List.getElem_cons_zero, List.setIfInBounds_toArray, List.set_cons_zero, List.set_cons_succ]
      refine Wk.skip (m := 2) (k := 13) rfl (by rfl) ?_
      try simp only [Act.put, List.getElem_toArray, List.getElem_cons_succ, List.getElem_cons_zero, List.setIfInBounds_toArray, List.set_cons_zero, List.set_cons_succ]
      first | (refine Wk.skip (m := 1) (k := 14) rfl (by rfl) ?_) | (refine Wk.step (m := 1) (k := 14) (v := _) rfl (by rfl) (fun wv hS => by obtain ⟨s0, s1, s2, s3, s4, s5, s6⟩ := hS; go_simp; try with_reducible rfl) ?_)
      try simp only [Act.put, List.getElem_toArray, List.getElem_cons_succ, List.getElem_cons_zero, List.setIfInBounds_toArray, List.set_cons_zero, List.set_cons_succ]
      first | (refine Wk.skip (m := 0) (k := 15) rfl (by rfl) ?_) | (refine Wk.step (m := 0) (k := 15) (v := _) rfl (by rfl) (fun wv hS => by obtain ⟨s0, s1, s2, s3, s4, s5, s6⟩ := hS; go_simp; try with_reducible rfl) ?_)
      try simp only [Act.put, List.getElem_toArray, List.getElem_cons_succ, List.getElem_cons_zero, List.setIfInBounds_toArray, List.set_cons_zero, List.set_cons_succ]
      refine Wk.done fun wE hE => ?_
      clear k0 k1 j0 j1 j2 hg
      obtain ⟨mE, k0, k1, j0, j1, j2, hg⟩ := hE
      go_wp2_with fail
      go_ret
      exact ⟨retB HR.out.symm, HM0.out.trans mE⟩
    · have Q2 := Lib.hid q2
      have HR := Lib.hid (show usB n0 zA zl n1 x0 x1 hs n t = inB t x0 (segExp hs n) by unfold usB; rw [Q1.out, q2]; first | done | rfl | simp)
      clear q2
      refine wp_region_wk (fun w' => Mk0 WW w' ∧ w'.cell? ⟨w.heap.size, 0, none⟩ = some (.slice a0 n0 c0) ∧ w'.cell? ⟨w.heap.size, 1, none⟩ = some (.slice a1 n1 c1) ∧ w'.cell? ⟨w.heap.size + 1, 0, none⟩ = some (.int .i64 x0) ∧ w'.cell? ⟨w.heap.size + 1, 1, none⟩ = some (.int .i64 x1) ∧ w'.cell? ⟨w.heap.size + 1, 2, none⟩ = some (.slice a n c) ∧ w'.cell? ⟨0, 0, none⟩ = some (.iface 131 (.agg #[.pointer (some ⟨1, 96, none⟩)]))) (by kernel_rfl) (by kernel_rfl) (⟨Mk.drew1 _, k0, k1, j0, j1, j2, hg⟩) ?_
      change Wk _ _ _ _ 16 0 _
      first | (refine Wk.skip (m := 15) (k := 0) rfl (by rfl) ?_) | (refine Wk.step (m := 15) (k := 0) (v := _) rfl (by rfl) (fun wv hS => by obtain ⟨s0, s1, s2, s3, s4, s5, s6⟩ := hS; go_simp; try with_reducible rfl) ?_)
      try simp only [Act.put, List.getElem_toArray, List.getElem_cons_zero, List.setIfInBounds_toArray, List.set_cons_zero, List.set_cons_succ]
      first | (refine Wk.skip (m := 14) (k := 1) rfl (by rfl) ?_) | (refine Wk.step (m := 14) (k := 1) (v := _) rfl (by rfl) (fun wv hS => by obtain ⟨s0, s1, s2, s3, s4, s5, s6⟩ := hS; go_simp; try with_reducible rfl) ?_)
      try simp only [Act.put, List.getElem_toArray, List.getElem_cons_succ, List.getElem_cons_zero, List.setIfInBounds_toArray, List.set_cons_zero, List.set_cons_succ]
      refine Wk.call (m := 13) (k := 2) (v := .bool true) _ _ rfl (by rfl) (fun wv hS => by obtain ⟨s0, s1, s2, s3, s4, s5, s6⟩ := hS; go_simp; first | done | exact ⟨rfl, rfl⟩ | with_reducible rfl) (fun wv hS => ?_) ?_; · obtain ⟨s0, s1, s2, s3, s4, s5, s6⟩ := hS; refine (implVSeg a0 a1 n0 c0 n1 c1 B zA zl x0 x1 a n c B' hs _ (hA.mk (HM0.out.trans s0) hB (.inr (Nat.le_refl _))) (hl.mk (HM0.out.trans s0) hB (.inr (Nat.le_refl _))) (Nat.le_trans hB (HM0.out.trans s0).size) hn0 hn1 (h.mk (HM0.out.trans s0) hB' (.inr (Nat.le_refl _))) (Nat.le_trans hB' (HM0.out.trans s0).size) hn HZ.out HT.out HBT.out HF.out s6).mono ?_; rintro e w' ⟨he, mm⟩; exact ⟨by rw [he, Q1.out], ⟨s0.trans mm, mm.cellAt s1, mm.cellAt s2, mm.cellAt s3, mm.cellAt s4, mm.cellAt s5, mm.cellAt s6⟩⟩
      try simp only [Act.put, List.getElem_toArray, List.getElem_cons_succ, List.getElem_cons_zero, List.setIfInBounds_toArray, List.set_cons_zero, List.set_cons_succ]
      first | (refine Wk.skip (m := 12) (k := 3) rfl (by rfl) ?_) | (refine Wk.step (m := 12) (k := 3) (v := _) rfl (by rfl) (fun wv hS => by obtain ⟨s0, s1, s2, s3, s4, s5, s6⟩ := hS; go_simp; try with_reducible rfl) ?_)
      try simp only [Act.put, List.getElem_toArray, List.getElem_cons_succ, List.getElem_cons_zero, List.setIfInBounds_toArray, List.set_cons_zero, List.set_cons_succ]
      first | (refine Wk.skip (m := 11) (k := 4) rfl (by rfl) ?_) | (refine Wk.step (m := 11) (k := 4) (v := _) rfl (by rfl) (fun wv hS => by obtain ⟨s0, s1, s2, s3, s4, s5, s6⟩ := hS; go_simp; try with_reducible rfl) ?_)
      try simp only [Act.put, List.getElem_toArray, List.getElem_cons_succ, List.getElem_cons_zero, List.setIfInBounds_toArray, List.set_cons_zero, List.set_cons_succ]
      refine Wk.call (m := 10) (k := 5) (v := .bool true) _ _ rfl (by rfl) (fun wv hS => by obtain ⟨s0, s1, s2, s3, s4, s5, s6⟩ := hS; go_simp; first | done | exact ⟨rfl, rfl⟩ | with_reducible rfl) (fun wv hS => ?_) ?_; · obtain ⟨s0, s1, s2, s3, s4, s5, s6⟩ := hS; refine (implTermd x0 x1 a n c B' hs _ (h.mk (HM0.out.trans s0) hB' (.inr (Nat.le_refl _))) (Nat.le_trans hB' (HM0.out.trans s0).size) hn).mono ?_; rintro e w' ⟨he, mm⟩; exact ⟨by rw [he, Q2.out], ⟨s0.trans mm, mm.cellAt s1, mm.cellAt s2, mm.cellAt s3, mm.cellAt s4, mm.cellAt s5, mm.cellAt s6⟩⟩
      try simp only [Act.put, List.getElem_toArray, List.getElem_cons_succ, List.getElem_cons_zero, List.setIfInBounds_toArray, List.set_cons_zero, List.set_cons_succ]
      first | (refine Wk.skip (m := 9) (k := 6) rfl (by rfl) ?_) | (refine Wk.step (m := 9) (k := 6) (v := _) rfl (by rfl) (fun wv hS => by obtain ⟨s0, s1, s2, s3, s4, s5, s6⟩ := hS; go_simp; try with_reducible rfl) ?_)
      try simp only [Act.put, List.getElem_toArray, List.getElem_cons_succ, List.getElem_cons_zero, List.setIfInBounds_toArray, List.set_cons_zero, List.set_cons_succ]
      first | (refine Wk.skip (m := 8) (k := 7) rfl (by rfl) ?_) | (refine Wk.step (m := 8) (k := 7) (v := _) rfl (by rfl) (fun wv hS => by obtain ⟨s0, s1, s2, s3, s4, s5, s6⟩ := hS; go_simp; try with_reducible rfl) ?_)
      try simp only [Act.put, List.getElem_toArray, List.getElem_cons_succ, List.getElem_cons_zero, List.setIfInBounds_toArray, List.set_cons_zero, List.set_cons_succ]
      first | (refine Wk.skip (m := 7) (k := 8) rfl (by rfl) ?_) | (refine Wk.step (m := 7) (k := 8) (v := _) rfl (by rfl) (fun wv hS => by obtain ⟨s0, s1, s2, s3, s4, s5, s6⟩ := hS; go_simp; try with_reducible rfl) ?_)
      try simp only [Act.put, List.getElem_toArray, List.getElem_cons_succ, List.getElem_cons_zero, List.setIfInBounds_toArray, List.set_cons_zero, List.set_cons_succ]
      first | (refine Wk.skip (m := 6) (k := 9) rfl (by rfl) ?_) | (refine Wk.step (m := 6) (k := 9) (v := _) rfl (by rfl) (fun wv hS => by obtain ⟨s0, s1, s2, s3, s4, s5, s6⟩ := hS; go_simp; try with_reducible rfl) ?_)
      try simp only [Act.put, List.getElem_toArray, List.getElem_cons_succ, List.getElem_cons_zero, List.setIfInBounds_toArray, List.set_cons_zero, List.set_cons_succ]
      first | (refine Wk.skip (m := 5) (k := 10) rfl (by rfl) ?_) | (refine Wk.step (m := 5) (k := 10) (v := _) rfl (by rfl) (fun wv hS => by obtain ⟨s0, s1, s2, s3, s4, s5, s6⟩ := hS; go_simp; try with_reducible rfl) ?_)
      try simp only [Act.put, List.getElem_toArray, List.getElem_cons_succ, List.getElem_cons_zero, List.setIfInBounds_toArray, List.set_cons_zero, List.set_cons_succ]
      first | (refine Wk.skip (m := 4) (k := 11) rfl (by rfl) ?_) | (refine Wk.step (m := 4) (k := 11) (v := _) rfl (by rfl) (fun wv hS => by obtain ⟨s0, s1, s2, s3, s4, s5, s6⟩ := hS; go_simp; try with_reducible rfl) ?_)
      try simp only [Act.put, List.getElem_toArray, List.getElem_cons_succ, List.getElem_cons_zero, List.setIfInBounds_toArray, List.set_cons_zero, List.set_cons_succ]
      refine Wk.call (m := 3) (k := 12) (v := .int .i64 (segExp hs n)) _ _ rfl (by rfl) (fun wv hS => by obtain ⟨s0, s1, s2, s3, s4, s5, s6⟩ := hS; go_simp; first | done | exact ⟨rfl, rfl⟩ | with_reducible rfl) (fun wv hS => ?_) ?_; · obtain ⟨s0, s1, s2, s3, s4, s5, s6⟩ := hS; refine (implExpiry x0 x1 a n c B' hs _ (h.mk (HM0.out.trans s0) hB' (.inr (Nat.le_refl _))) (Nat.le_trans hB' (HM0.out.trans s0).size) hn).mono ?_; rintro e w' ⟨he, mm⟩; exact ⟨he, ⟨s0.trans mm, mm.cellAt s1, mm.cellAt s2, mm.cellAt s3, mm.cellAt s4, mm.cellAt s5, mm.cellAt s6⟩⟩
      try simp only [Act.put, List.getElem_toArray, List.getElem_cons_succ, List.getElem_cons_zero, List.setIfInBounds_toArray, List.set_cons_zero, List.set_cons_succ]
      refine Wk.call (m := 2) (k := 13) (v := .bool (inB t x0 (segExp hs n))) _ _ rfl (by rfl) (fun wv hS => by obtain ⟨s0, s1, s2, s3, s4, s5, s6⟩ := hS; go_simp; first | done | exact ⟨rfl, rfl⟩ | with_reducible rfl) (fun wv hS => ?_) ?_; · obtain ⟨s0, s1, s2, s3, s4, s5, s6⟩ := hS; refine (implIn t x0 (segExp hs n) wv).mono ?_; rintro e w' ⟨he, rfl⟩; exact ⟨he, ⟨s0, s1, s2, s3, s4, s5, s6⟩⟩
      try simp only [Act.put, List.getElem_toArray, List.getElem_cons_succ, List.getElem_cons_zero, List.setIfInBounds_toArray, List.set_cons_zero, List.set_cons_succ]
      first | (refine Wk.skip (m := 1) (k := 14) rfl (by rfl) ?_) | (refine Wk.step (m := 1) (k := 14) (v := _) rfl (by rfl) (fun wv hS => by obtain ⟨s0, s1, s2, s3, s4, s5, s6⟩ := hS; go_simp; try with_reducible rfl) ?_)
      try simp only [Act.put, List.getElem_toArray, List.getElem_cons_succ, List.getElem_cons_zero, List.setIfInBounds_toArray, List.set_cons_zero, List.set_cons_succ]
      first | (refine Wk.skip (m := 0) (k := 15) rfl (by rfl) ?_) | (refine Wk.step (m := 0) (k := 15) (v := _) rfl (by rfl) (fun wv hS => by obtain ⟨s0, s1, s2, s3, s4, s5, s6⟩ := hS; go_simp; try with_reducible rfl) ?_)
      try simp only [Act.put, List.getElem_toArray, List.getElem_cons_succ, List.getElem_cons_zero, List.setIfInBounds_toArray, List.set_cons_zero, List.set_cons_succ]
      refine Wk.done fun wE hE => ?_
      clear k0 k1 j0 j1 j2 hg
      obtain ⟨mE, k0, k1, j0, j1, j2, hg⟩ := hE
      go_wp2_with fail
      go_ret
      exact ⟨retB HR.out.symm, HM0.out.trans mE⟩

end Go.Proofs.YtefjbnbibmiccaaGreatDoor
