
/- slices.IndexFunc over rows of Signature. -/
import Derived.Test.YtpkgpaeecjlnoaaSSignature
import Derived.Test.YtpkgpaeecjlnoaaUpd
import Derived.Test.YtpkgpaeecjlnoaaRet
import Derived.Laws.EntriesVeiled
namespace Go.Proofs.Ytpkgpaeecjlnoaa
open Go.ChangeShapes Go.WideShapes Go.ChangeAt Go.RowKit
set_option linter.unusedVariables false
set_option maxRecDepth 100000 in
set_option maxHeartbeats 4000000 in
theorem indexFuncSignature (pr : TSignature → Bool) (Fc : FuncId) (q : Value) (a : Option Addr) (n c B : Nat) (zs : List TSignature) (w : World) (h : HasSignature w B a n zs) (hB : B ≤ w.heap.size) (hn : n ≤ 1048576)
    (hen : ∀ (x : TSignature) w1, (callFunc Fc #[.agg #[.int .i64 x.nd, .int .i64 x.val], q]).run Try.prog w1 = .ok (.enter Fc #[.agg #[.int .i64 x.nd, .int .i64 x.val], q]) w1)
    (hcl : ∀ x w1, Mk0 w w1 → Calls Try.prog Fc #[.agg #[.int .i64 x.nd, .int .i64 x.val], q] w1 fun e w2 => e = .returned (.bool (pr x)) ∧ Mk0 w1 w2) :
    Calls Try.prog 105 #[.slice a n c, .func (.func Fc) #[] #[q]] w fun e w' => e = .returned (.int .i64 (firstP pr zs n n)) ∧ Mk0 w w' := by
  have HCL := Lib.hid hcl
  have HEN := Lib.hid hen
  clear hcl hen
  go_enter Try.func105, Try.ntmps105
  go_wp2_with fail
  go_loopw [4, 8] (fun r i wr => r = .int .i64 0 ∧ ∃ k : Nat, k ≤ n ∧ i = .int .i64 k ∧ Hid (firstP pr zs n n = firstP pr zs n (n - k)) ∧ Mk0 w wr) (fun _ i _ => n - (intOf i).toNat)
  case atStart => exact ⟨rfl, 0, Nat.zero_le _, rfl, rfl, Mk.refl _ _ _⟩
  case round =>
    obtain ⟨rfl, k, hk, rfl, hS, hM⟩ := hrel
    by_cases hlt : k < n
    · obtain ⟨b, off, x, rfl, hb, hx, c0, c1⟩ := HasSignature.at _ _ _ _ _ _ (h.mk hM hB (.inr (Nat.le_refl _))) hlt
      have hq := HCL.out x _ hM
      have hen1 := HEN.out x
      cases hp : pr x
      · have HE := Lib.hid (show firstP pr zs n n = firstP pr zs n (n - (k + 1)) by rw [hS.out]; exact firstP_go hlt (by rw [← hx.out]; exact hp))
        have HP := Lib.hid hp
        clear hp
        go_wp2_with fail
        refine hq.mono ?_
        rintro e w2 ⟨he, m2⟩
        clear hq
        rw [HP.out] at he
        subst he
        go_wp2_with fail
        go_roundw
        case rel => exact ⟨rfl, k + 1, by omega, by go_num, HE.out, hM.trans m2⟩
        case measure => simp [intOf]; omega
      · have HE := Lib.hid (show firstP pr zs n n = (k : Int) by rw [hS.out]; exact firstP_stop hlt (by rw [← hx.out]; exact hp))
        have HP := Lib.hid hp
        clear hp
        go_wp2_with fail
        refine hq.mono ?_
        rintro e w2 ⟨he, m2⟩
        clear hq
        rw [HP.out] at he
        subst he
        go_wp2_with fail
        go_ret
        exact ⟨retI HE.out.symm, hM.trans m2⟩
    · obtain rfl : k = n := by omega
      go_wp2_with fail
      go_ret
      exact ⟨retI (by rw [hS.out, Nat.sub_self]; rfl), hM⟩

end Go.Proofs.Ytpkgpaeecjlnoaa
