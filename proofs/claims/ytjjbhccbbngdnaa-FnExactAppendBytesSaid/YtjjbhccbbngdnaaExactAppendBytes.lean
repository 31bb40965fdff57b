/- For every two byte slices, the law on AppendBytes returns true and leaves its arguments alone; no further condition. -/
import Derived.Test.YtjjbhccbbngdnaaRows
import Derived.WalkKit
import Derived.ProofKit
import Derived.OpenShut
import Derived.ShutString
import Derived.ChangeOld
import Derived.Below
import Derived.Test.YtjjbhccbbngdnaaEnc
import Derived.Test.YtjjbhccbbngdnaaByteMark
namespace Go.Proofs.Ytjjbhccbbngdnaa.fnExactAppendBytes
open Go.ChangeShapes Go.WideShapes Go.ChangeAt Go.RowKit
open Go.ChangeMaps (open_string shut_string)
set_option linter.unusedVariables false

theorem own : ownKnob Try.prog.godebug = none := by kernel_rfl
theorem laidOut : laidOutB Try.prog = true := by kernel_rfl

set_option maxRecDepth 100000 in
set_option maxHeartbeats 4000000 in
theorem walk (a0 : Option Addr) (len0 cap0 : Nat) (z0 : List Int) (a1 : Option Addr) (len1 cap1 : Nat) (z1 : List Int) (w : World) (w0 : IsRow .u8 w a0 len0 cap0 z0) (w1 : IsRow .u8 w a1 len1 cap1 z1) :
    Calls Try.prog 7 #[.slice a0 len0 cap0, .slice a1 len1 cap1] w fun e w' => e = .returned (.bool true) ∧ Below w.heap.size w w' := by
  by_cases hbig0 : 1048576 < len0
  · have hb0 : (1048576 : Int) < (len0 : Int) := by omega
    go_enter Try.func7, Try.ntmps7
    go_wp2
    go_ret
    exact ⟨rfl, Below.refl _ _⟩
  have hn0 : len0 ≤ 1048576 := by omega
  have hp0 : (len0 : Int) ≤ 1048576 := by omega
  clear hbig0
  by_cases hbig1 : 1048576 < len1
  · have hb1 : (1048576 : Int) < (len1 : Int) := by omega
    go_enter Try.func7, Try.ntmps7
    go_wp2
    go_ret
    exact ⟨rfl, Below.refl _ _⟩
  have hn1 : len1 ≤ 1048576 := by omega
  have hp1 : (len1 : Int) ≤ 1048576 := by omega
  clear hbig1
  have h0 := w0.has
  have hF0 := Lib.hid w0.fits
  have hL0 := Lib.hid w0.has.1
  clear w0
  have h1 := w1.has
  have hF1 := Lib.hid w1.fits
  have hL1 := Lib.hid w1.has.1
  clear w1
  go_enter Try.func7, Try.ntmps7
  go_wp2_with fail
  refine (toByte _ _ _ _ _ (h0.mono (Nat.le_refl _)) hn0).mono ?_
  rintro e w1 ⟨rfl, o1, b1⟩
  have lo2 := Nat.le_refl w.heap.size
  have f3 := h0.below (b1.mono (Nat.le_refl _))
  clear h0
  have f4 := h1.below (b1.mono (Nat.le_refl _))
  clear h1
  have B5 := b1
  go_wp2_with fail
  refine (toByte _ _ _ _ _ (f4.mono B5.size) hn1).mono ?_
  rintro e w6 ⟨rfl, o6, b6⟩
  have dj7 := dj_of o1.has o6 (Nat.le_refl _)
  have lo8 := B5.size
  have f9 := f3.below (b6.mono B5.size)
  clear f3
  have f10 := f4.below (b6.mono B5.size)
  clear f4
  have f11 := o1.below b6
  clear o1
  have B12 := Below.seq B5 b6
  go_wp2_with fail
  refine ((specAppendBytes _ _ _ _ _ _ _ _ _ f11.has (fun h => by cases h) (by omega) o6.has (fun h => by cases h) (by omega)).mono (fun _ _ h => h.r)).mono ?_
  rintro e w13 ⟨A13, N13, c13, rfl, hc13, o13, b13⟩
  have hb13 : N13 ≤ 1073741824 := by have h1 := o13.1; have h2 := vb_len (List.take len1 z1).length; have h3 := hL0.out; have h4 := hL1.out; simp only [abR, List.length_append] at h1; omega
  have hC13 := Lib.hid hc13
  clear hc13
  have dj14 := dj_of f11.has o13 (Nat.le_refl _)
  have dj15 := dj_of o6.has o13 (Nat.le_refl _)
  have lo16 := B12.size
  have f17 := f9.below (b13.mono B12.size)
  clear f9
  have f18 := f10.below (b13.mono B12.size)
  clear f10
  have f19 := f11.below b13
  clear f11
  have f20 := o6.below b13
  clear o6
  have B21 := Below.seq B12 b13
  go_wp2_with fail
  refine (toByte _ _ _ _ _ (f17.mono B21.size) hn0).mono ?_
  rintro e w22 ⟨rfl, o22, b22⟩
  have dj23 := dj_of o13.has o22 (Nat.le_refl _)
  have lo24 := B21.size
  have f25 := f17.below (b22.mono B21.size)
  clear f17
  have f26 := f18.below (b22.mono B21.size)
  clear f18
  have f27 := o13.below b22
  clear o13
  have B28 := Below.seq B21 b22
  go_wp2_with fail
  refine (toByte _ _ _ _ _ (f26.mono B28.size) hn1).mono ?_
  rintro e w29 ⟨rfl, o29, b29⟩
  have dj30 := dj_of f27.has o29 (Nat.le_refl _)
  have dj31 := dj_of o22.has o29 (Nat.le_refl _)
  have lo32 := B28.size
  have f33 := f25.below (b29.mono B28.size)
  clear f25
  have f34 := f26.below (b29.mono B28.size)
  clear f26
  have f35 := f27.below b29
  clear f27
  have f36 := o22.below b29
  clear o22
  have B37 := Below.seq B28 b29
  go_wp2_with fail
  refine ((implAppendBytes _ _ _ _ _ _ _ _ _ f36.has (fun h => by cases h) (by omega) o29.has (fun h => by cases h) (by omega)).mono (fun _ _ h => h.r)).mono ?_
  rintro e w38 ⟨A38, N38, c38, rfl, hc38, o38, b38⟩
  obtain rfl : N13 = N38 := f35.1.symm.trans o38.1
  have hC38 := Lib.hid hc38
  clear hc38
  have dj39 := dj_of f35.has o38 (Nat.le_refl _)
  have dj40 := dj_of f36.has o38 (Nat.le_refl _)
  have dj41 := dj_of o29.has o38 (Nat.le_refl _)
  have lo42 := B37.size
  have f43 := f33.below (b38.mono B37.size)
  clear f33
  have f44 := f34.below (b38.mono B37.size)
  clear f34
  have f45 := f35.below b38
  clear f35
  have f46 := f36.below b38
  clear f36
  have f47 := o29.below b38
  clear o29
  have B48 := Below.seq B37 b38
  go_wp2_with fail
  refine (eqByte _ _ _ _ _ _ _ _ _ o38.has f45.has hb13).mono ?_
  rintro e w' ⟨rfl, m49, rfl⟩
  have f50 := f43.drewB m49
  clear f43
  have f51 := f44.drewB m49
  clear f44
  have f52 := f45.drewN m49
  clear f45
  have f53 := f46.drewN m49
  clear f46
  have f54 := f47.drewN m49
  clear f47
  have f55 := o38.drewN m49
  clear o38
  have B56 := Below.drewN' B48 m49
  go_wp2_with fail
  refine (toByte _ _ _ _ _ (f50.mono B56.size) hn0).mono ?_
  rintro e w57 ⟨rfl, o57, b57⟩
  have dj58 := dj_of f52.has o57 (Nat.le_refl _)
  have dj59 := dj_of f53.has o57 (Nat.le_refl _)
  have dj60 := dj_of f54.has o57 (Nat.le_refl _)
  have dj61 := dj_of f55.has o57 (Nat.le_refl _)
  have lo62 := B56.size
  have f63 := f50.below (b57.mono B56.size)
  clear f50
  have f64 := f51.below (b57.mono B56.size)
  clear f51
  have f65 := f52.below b57
  clear f52
  have f66 := f53.below b57
  clear f53
  have f67 := f54.below b57
  clear f54
  have f68 := f55.below b57
  clear f55
  have B69 := Below.seq B56 b57
  go_wp2_with fail
  refine (eqByte _ _ _ _ _ _ _ _ _ f66.has o57.has (by omega)).mono ?_
  rintro e w' ⟨rfl, m70, rfl⟩
  have f71 := f63.drewB m70
  clear f63
  have f72 := f64.drewB m70
  clear f64
  have f73 := f65.drewN m70
  clear f65
  have f74 := f66.drewN m70
  clear f66
  have f75 := f67.drewN m70
  clear f67
  have f76 := f68.drewN m70
  clear f68
  have f77 := o57.drewN m70
  clear o57
  have B78 := Below.drewN' B69 m70
  go_wp2_with fail
  refine (toByte _ _ _ _ _ (f72.mono B78.size) hn1).mono ?_
  rintro e w79 ⟨rfl, o79, b79⟩
  have dj80 := dj_of f73.has o79 (Nat.le_refl _)
  have dj81 := dj_of f74.has o79 (Nat.le_refl _)
  have dj82 := dj_of f75.has o79 (Nat.le_refl _)
  have dj83 := dj_of f76.has o79 (Nat.le_refl _)
  have lo84 := B78.size
  have f85 := f71.below (b79.mono B78.size)
  clear f71
  have f86 := f72.below (b79.mono B78.size)
  clear f72
  have f87 := f73.below b79
  clear f73
  have f88 := f74.below b79
  clear f74
  have f89 := f75.below b79
  clear f75
  have f90 := f76.below b79
  clear f76
  have B91 := Below.seq B78 b79
  go_wp2_with fail
  refine (eqByte _ _ _ _ _ _ _ _ _ f89.has o79.has (by omega)).mono ?_
  rintro e w' ⟨rfl, m92, rfl⟩
  have f93 := f85.drewB m92
  clear f85
  have f94 := f86.drewB m92
  clear f86
  have f95 := f87.drewN m92
  clear f87
  have f96 := f88.drewN m92
  clear f88
  have f97 := f89.drewN m92
  clear f89
  have f98 := f90.drewN m92
  clear f90
  have f99 := o79.drewN m92
  clear o79
  have B100 := Below.drewN' B91 m92
  go_wp2_with fail
  refine (markByte _ _ _ _ _ _ _ f96 (by omega) (by omega) (by omega)).mono ?_
  rintro e w101 ⟨rfl, o101, g101⟩
  have f102 := f93.far f96 lo24 B100.size g101
  clear f93
  have f103 := f94.far f96 lo24 B100.size g101
  clear f94
  have B104 := Below.far B100 f96 lo24 B100.size g101
  have f105 := f95.far g101 dj23
  clear f95
  have f106 := f97.far g101 dj31.symm
  clear f97
  have f107 := f98.far g101 dj40.symm
  clear f98
  clear f96
  go_wp2_with fail
  refine (markByte _ _ _ _ _ _ _ f106 (by omega) (by omega) (by omega)).mono ?_
  rintro e w108 ⟨rfl, o108, g108⟩
  have f109 := f102.far f106 lo32 B104.size g108
  clear f102
  have f110 := f103.far f106 lo32 B104.size g108
  clear f103
  have B111 := Below.far B104 f106 lo32 B104.size g108
  have f112 := f105.far g108 dj30
  clear f105
  have f113 := o101.far g108 dj31
  clear o101
  have f114 := f107.far g108 dj41.symm
  clear f107
  clear f106
  go_wp2_with fail
  refine (eqByte _ _ _ _ _ _ _ _ _ f114.has f112.has hb13).mono ?_
  rintro e w' ⟨rfl, m115, rfl⟩
  have f116 := f109.drewB m115
  clear f109
  have f117 := f110.drewB m115
  clear f110
  have f118 := f112.drewN m115
  clear f112
  have f119 := f113.drewN m115
  clear f113
  have f120 := o108.drewN m115
  clear o108
  have f121 := f114.drewN m115
  clear f114
  have B122 := Below.drewN' B111 m115
  go_wp2_with fail
  refine (markByte _ _ _ _ _ _ _ f121 hb13 (by omega) (by omega)).mono ?_
  rintro e w123 ⟨rfl, o123, g123⟩
  have f124 := f116.far f121 lo42 B122.size g123
  clear f116
  have f125 := f117.far f121 lo42 B122.size g123
  clear f117
  have B126 := Below.far B122 f121 lo42 B122.size g123
  have f127 := f118.far g123 dj39
  clear f118
  have f128 := f119.far g123 dj40
  clear f119
  have f129 := f120.far g123 dj41
  clear f120
  clear f121
  go_wp2_with fail
  refine (heldByte _ _ _ _ _ _ o123.has hb13 (by omega) (by omega)).mono ?_
  rintro e w' ⟨rfl, rfl⟩
  go_wp2_with fail
  refine (toByte _ _ _ _ _ (f124.mono B126.size) hn0).mono ?_
  rintro e w130 ⟨rfl, o130, b130⟩
  have dj131 := dj_of f127.has o130 (Nat.le_refl _)
  have dj132 := dj_of f128.has o130 (Nat.le_refl _)
  have dj133 := dj_of f129.has o130 (Nat.le_refl _)
  have dj134 := dj_of o123.has o130 (Nat.le_refl _)
  have lo135 := B126.size
  have f136 := f124.below (b130.mono B126.size)
  clear f124
  have f137 := f125.below (b130.mono B126.size)
  clear f125
  have f138 := f127.below b130
  clear f127
  have f139 := f128.below b130
  clear f128
  have f140 := f129.below b130
  clear f129
  have f141 := o123.below b130
  clear o123
  have B142 := Below.seq B126 b130
  go_wp2_with fail
  refine (toByte _ _ _ _ _ (f137.mono B142.size) hn1).mono ?_
  rintro e w143 ⟨rfl, o143, b143⟩
  have dj144 := dj_of f138.has o143 (Nat.le_refl _)
  have dj145 := dj_of f139.has o143 (Nat.le_refl _)
  have dj146 := dj_of f140.has o143 (Nat.le_refl _)
  have dj147 := dj_of f141.has o143 (Nat.le_refl _)
  have dj148 := dj_of o130.has o143 (Nat.le_refl _)
  have lo149 := B142.size
  have f150 := f136.below (b143.mono B142.size)
  clear f136
  have f151 := f137.below (b143.mono B142.size)
  clear f137
  have f152 := f138.below b143
  clear f138
  have f153 := f139.below b143
  clear f139
  have f154 := f140.below b143
  clear f140
  have f155 := f141.below b143
  clear f141
  have f156 := o130.below b143
  clear o130
  have B157 := Below.seq B142 b143
  go_wp2_with fail
  refine ((implAppendBytes _ _ _ _ _ _ _ _ _ f156.has (fun h => by cases h) (by omega) o143.has (fun h => by cases h) (by omega)).mono (fun _ _ h => h.r)).mono ?_
  rintro e w158 ⟨A158, N158, c158, rfl, hc158, o158, b158⟩
  obtain rfl : N13 = N158 := f152.1.symm.trans o158.1
  have hC158 := Lib.hid hc158
  clear hc158
  have dj159 := dj_of f152.has o158 (Nat.le_refl _)
  have dj160 := dj_of f153.has o158 (Nat.le_refl _)
  have dj161 := dj_of f154.has o158 (Nat.le_refl _)
  have dj162 := dj_of f155.has o158 (Nat.le_refl _)
  have dj163 := dj_of f156.has o158 (Nat.le_refl _)
  have dj164 := dj_of o143.has o158 (Nat.le_refl _)
  have lo165 := B157.size
  have f166 := f150.below (b158.mono B157.size)
  clear f150
  have f167 := f151.below (b158.mono B157.size)
  clear f151
  have f168 := f152.below b158
  clear f152
  have f169 := f153.below b158
  clear f153
  have f170 := f154.below b158
  clear f154
  have f171 := f155.below b158
  clear f155
  have f172 := f156.below b158
  clear f156
  have f173 := o143.below b158
  clear o143
  have B174 := Below.seq B157 b158
  go_wp2_with fail
  refine (eqByte _ _ _ _ _ _ _ _ _ o158.has f168.has hb13).mono ?_
  rintro e w' ⟨rfl, m175, rfl⟩
  have f176 := f166.drewB m175
  clear f166
  have f177 := f167.drewB m175
  clear f167
  have f178 := f168.drewN m175
  clear f168
  have f179 := f169.drewN m175
  clear f169
  have f180 := f170.drewN m175
  clear f170
  have f181 := f171.drewN m175
  clear f171
  have f182 := f172.drewN m175
  clear f172
  have f183 := f173.drewN m175
  clear f173
  have f184 := o158.drewN m175
  clear o158
  have B185 := Below.drewN' B174 m175
  go_wp2_with fail
  refine (heldByte _ _ _ _ _ _ f181.has hb13 (by omega) (by omega)).mono ?_
  rintro e w' ⟨rfl, rfl⟩
  go_wp2_with fail
  go_ret
  exact ⟨rfl, B185⟩

set_option maxRecDepth 100000 in
theorem lifted (os : Os) (started : os.Started) (H : Type) (enc : TypeId × Value → H) :
    ReturnsInHanded {} Try.checked os 7 .any (Rows.fnExactAppendBytesSpec.pre6 enc Try.prog Try.f7 Rows.fnExactAppendBytesRow.domain false) (Rows.fnExactAppendBytesSpec.post enc Try.prog Try.f7 false true false false) := by
  refine returnsInHanded_of_change (C := Try.checked) own started (by kernel_rfl) Try.func7
    (ChangeSpec.witness6 (enc := enc) (C := Try.checked) false ⟨#[], #[.slice none 0 0, .slice none 0 0], []⟩ 8 (by kernel_rfl) (by kernel_rfl) (by kernel_rfl) (by kernel_rfl)) ?_
  intro W base args ds gs before hval0 hW hcnd _
  have hval : ∀ (j : Nat) t v, Try.f7.params[j]? = some t → args[j]? = some v → Value.okWide Try.prog W .any base t v := hval0
  have hW' := hW
  obtain ⟨p, q, hA0, hV, rfl, hfz, hnd⟩ := hW
  have hA : DataW.TrodAll enc Try.prog W 0 (fun _ => true) true Try.f7.params.toList args.toList ds p := hA0
  rw [Try.params7] at hA hval
  obtain ⟨v0, vs0, d0, ds0, p0, q0, hargs, rfl, rfl, h0, r0⟩ := trodAll_cons hA
  obtain ⟨v1, vs1, d1, ds1, p1, q1, rfl, rfl, rfl, h1, r1⟩ := trodAll_cons r0
  obtain ⟨rfl, rfl, rfl⟩ := trodAll_nil r1
  obtain rfl : args = #[v0, v1] := by cases args; simp_all
  obtain ⟨rfl, rfl⟩ := trodVars_none hV
  obtain ⟨a0, len0, cap0, rfl⟩ := okWide_slice Try.underlying22 (hval 0 22 v0 rfl rfl)
  have k0 := h0
  have lt0 : ∀ x ∈ p0, x.block < W.heap.size := by obtain ⟨m, hm⟩ := k0; exact DataW.trod_lt m _ _ _ hm
  obtain ⟨z0, w0⟩ : ∃ zs, IsRow .u8 W a0 len0 cap0 zs := by
    obtain ⟨fuel, hf⟩ := h0
    rcases open_ints Try.underlying22 Try.underlying5 (by kernel_rfl) hf with ⟨hcs, _⟩ | ⟨x, l, c, zs, hcs, _, hl, hm, hz, _, hcell, hwz⟩
    · simp [Value.cells] at hcs
      obtain ⟨rfl, rfl, rfl⟩ := hcs
      exact ⟨[], .inl ⟨rfl, rfl, rfl, rfl⟩⟩
    · simp [Value.cells] at hcs
      obtain ⟨rfl, rfl, rfl⟩ := hcs
      exact ⟨zs, .inr ⟨_, rfl, hl, hm, by simpa using hz, hcell, hwz⟩⟩
  obtain ⟨a1, len1, cap1, rfl⟩ := okWide_slice Try.underlying22 (hval 1 22 v1 rfl rfl)
  have k1 := h1
  have lt1 : ∀ x ∈ p1, x.block < W.heap.size := by obtain ⟨m, hm⟩ := k1; exact DataW.trod_lt m _ _ _ hm
  obtain ⟨z1, w1⟩ : ∃ zs, IsRow .u8 W a1 len1 cap1 zs := by
    obtain ⟨fuel, hf⟩ := h1
    rcases open_ints Try.underlying22 Try.underlying5 (by kernel_rfl) hf with ⟨hcs, _⟩ | ⟨x, l, c, zs, hcs, _, hl, hm, hz, _, hcell, hwz⟩
    · simp [Value.cells] at hcs
      obtain ⟨rfl, rfl, rfl⟩ := hcs
      exact ⟨[], .inl ⟨rfl, rfl, rfl, rfl⟩⟩
    · simp [Value.cells] at hcs
      obtain ⟨rfl, rfl, rfl⟩ := hcs
      exact ⟨zs, .inr ⟨_, rfl, hl, hm, by simpa using hz, hcell, hwz⟩⟩
  clear hA0 hval0
  refine (walk a0 len0 cap0 z0 a1 len1 cap1 z1 W w0 w1).mono fun e W' ⟨he, bel⟩ => ?_
  subst he
  exact ⟨_, rfl, _, _, _, [], _, [], hW', trodAll_mk1 (shut_bool Try.underlying4 _), (trodAll_cons_mk (Below.trod laidOut (by kernel_rfl) (of_decide_eq_true (by kernel_rfl)) k0 bel lt0) (trodAll_cons_mk (Below.trod laidOut (by kernel_rfl) (of_decide_eq_true (by kernel_rfl)) k1 bel lt1) trodAll_mk0)), rfl, bel.frame _, fun h => by cases h⟩

theorem over : Rows.fnExactAppendBytesRow.holds Try.pinned (OpenSpec.ofChange Rows.fnExactAppendBytesSpec) :=
  OpenClaim.holds_of_wide 7 Try.f7 rfl rfl rfl rfl rfl rfl rfl ⟨rfl, rfl, rfl, rfl, rfl⟩ rfl rfl rfl rfl rfl (by kernel_rfl) Try.func7 (by kernel_rfl)
    (of_decide_eq_true (by kernel_rfl)) (by unfold Func.isWrapper; first | (rw [if_pos (by decide +kernel)]; kernel_rfl) | (rw [if_neg (by decide +kernel)]; exact ⟨rfl, rfl⟩))
    (fun os started H enc _ => lifted os started H enc)

theorem proved : Rows.FnExactAppendBytesSaid := over
#print axioms proved
end Go.Proofs.Ytjjbhccbbngdnaa.fnExactAppendBytes
