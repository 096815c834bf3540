/- That the data is what the program says, function by function. No conditions. -/
import Derived.Test.YtahkmbihhkjebaaDoorIrzs
import Derived.Test.YtahkmbihhkjebaaDoorLgD
import Derived.Test.YtahkmbihhkjebaaDoorRows
set_option linter.unusedSectionVars false
set_option linter.unusedVariables false
set_option linter.unusedSimpArgs false
namespace Go.Proofs.YtahkmbihhkjebaaDoor.oks
open Go.Lg Zz
def insRen : Go.Shelf.Ren := ⟨fun x => if x = 21 then 137 else if x = 27 then 149 else if x = 28 then 150 else if x = 35 then 155 else if x = 39 then 157 else x, fun x => if x = 0 then 0 else if x = 3 then 3 else if x = 4 then 4 else if x = 22 then 55 else x, fun x => x⟩
theorem insLays : Lays2.n21 Tryd.prog insRen := { mixed := by kernel_rfl, f21 := by kernel_rfl, f27 := by kernel_rfl, f28 := by kernel_rfl, f35 := by kernel_rfl, f39 := by kernel_rfl, t0 := Tryd.underlying0, a0 := Tryd.isAgg0, z0 := Tryd.sizeOf0, v0 := Tryd.zeroValue0, t3 := Tryd.underlying3, a3 := Tryd.isAgg3, z3 := Tryd.sizeOf3, v3 := Tryd.zeroValue3, t4 := Tryd.underlying4, a4 := Tryd.isAgg4, z4 := Tryd.sizeOf4, v4 := Tryd.zeroValue4, t22 := Tryd.underlying55, a22 := Tryd.isAgg55, z22 := Tryd.sizeOf55, v22 := Tryd.zeroValue55, i3 := by kernel_rfl }
theorem ok3 : OkF Tryd.prog (dcOf Tryd.prog) 3 Zz.F_laws_FnExactNextInCount := Or.inl ⟨rfl, ⟨⟨Tryd.f3, _, Tryd.func3, rfl, by kernel_rfl, by kernel_rfl, by kernel_rfl, by decide +kernel, by kernel_rfl⟩⟩⟩
theorem ok4 : OkF Tryd.prog (dcOf Tryd.prog) 4 Zz.F_laws_FnExactCountAverage := Or.inl ⟨rfl, ⟨⟨Tryd.f4, _, Tryd.func4, rfl, by kernel_rfl, by kernel_rfl, by kernel_rfl, by decide +kernel, by kernel_rfl⟩⟩⟩
theorem ok10 : OkF Tryd.prog (dcOf Tryd.prog) 10 Zz.F_laws_szTestS := Or.inl ⟨rfl, ⟨⟨Tryd.f10, _, Tryd.func10, rfl, by kernel_rfl, by kernel_rfl, by kernel_rfl, by decide +kernel, by kernel_rfl⟩⟩⟩
theorem ok11 : OkF Tryd.prog (dcOf Tryd.prog) 11 Zz.F_spec_NextInCount := Or.inl ⟨rfl, ⟨⟨Tryd.f11, _, Tryd.func11, rfl, by kernel_rfl, by kernel_rfl, by kernel_rfl, by decide +kernel, by kernel_rfl⟩⟩⟩
theorem ok12 : OkF Tryd.prog (dcOf Tryd.prog) 12 Zz.F_laws_toTestS := Or.inl ⟨rfl, ⟨⟨Tryd.f12, _, Tryd.func12, rfl, by kernel_rfl, by kernel_rfl, by kernel_rfl, by decide +kernel, by kernel_rfl⟩⟩⟩
theorem ok13 : OkF Tryd.prog (dcOf Tryd.prog) 13 Zz.F_impl_NextInCount := Or.inl ⟨rfl, ⟨⟨Tryd.f13, _, Tryd.func13, rfl, by kernel_rfl, by kernel_rfl, by kernel_rfl, by decide +kernel, by kernel_rfl⟩⟩⟩
theorem ok14 : OkF Tryd.prog (dcOf Tryd.prog) 14 Zz.F_laws_eqTestS := Or.inl ⟨rfl, ⟨⟨Tryd.f14, _, Tryd.func14, rfl, by kernel_rfl, by kernel_rfl, by kernel_rfl, by decide +kernel, by kernel_rfl⟩⟩⟩
theorem ok15 : OkF Tryd.prog (dcOf Tryd.prog) 15 Zz.F_spec_CountAverage := Or.inl ⟨rfl, ⟨⟨Tryd.f15, _, Tryd.func15, rfl, by kernel_rfl, by kernel_rfl, by kernel_rfl, by decide +kernel, by kernel_rfl⟩⟩⟩
theorem ok16 : OkF Tryd.prog (dcOf Tryd.prog) 16 Zz.F_impl_CountAverage := Or.inl ⟨rfl, ⟨⟨Tryd.f16, _, Tryd.func16, rfl, by kernel_rfl, by kernel_rfl, by kernel_rfl, by decide +kernel, by kernel_rfl⟩⟩⟩
theorem ok44 : OkF Tryd.prog (dcOf Tryd.prog) 44 Zz.F_spec_TestsOk := Or.inl ⟨rfl, ⟨⟨Tryd.f44, _, Tryd.func44, rfl, by kernel_rfl, by kernel_rfl, by kernel_rfl, by decide +kernel, by kernel_rfl⟩⟩⟩
theorem ok45 : OkF Tryd.prog (dcOf Tryd.prog) 45 Zz.F_spec_StateOk := Or.inl ⟨rfl, ⟨⟨Tryd.f45, _, Tryd.func45, rfl, by kernel_rfl, by kernel_rfl, by kernel_rfl, by decide +kernel, by kernel_rfl⟩⟩⟩
theorem ok46 : OkF Tryd.prog (dcOf Tryd.prog) 46 Zz.F_spec_l1In := Or.inl ⟨rfl, ⟨⟨Tryd.f46, _, Tryd.func46, rfl, by kernel_rfl, by kernel_rfl, by kernel_rfl, by decide +kernel, by kernel_rfl⟩⟩⟩
theorem ok47 : OkF Tryd.prog (dcOf Tryd.prog) 47 Zz.F_spec_l8Heads := Or.inl ⟨rfl, ⟨⟨Tryd.f47, _, Tryd.func47, rfl, by kernel_rfl, by kernel_rfl, by kernel_rfl, by decide +kernel, by kernel_rfl⟩⟩⟩
theorem ok48 : OkF Tryd.prog (dcOf Tryd.prog) 48 Zz.F_spec_l8First := Or.inl ⟨rfl, ⟨⟨Tryd.f48, _, Tryd.func48, rfl, by kernel_rfl, by kernel_rfl, by kernel_rfl, by decide +kernel, by kernel_rfl⟩⟩⟩
theorem ok49 : OkF Tryd.prog (dcOf Tryd.prog) 49 Zz.F_laws_toTest := Or.inl ⟨rfl, ⟨⟨Tryd.f49, _, Tryd.func49, rfl, by kernel_rfl, by kernel_rfl, by kernel_rfl, by decide +kernel, by kernel_rfl⟩⟩⟩
theorem ok50 : OkF Tryd.prog (dcOf Tryd.prog) 50 Zz.F_impl_TestsOk := Or.inl ⟨rfl, ⟨⟨Tryd.f50, _, Tryd.func50, rfl, by kernel_rfl, by kernel_rfl, by kernel_rfl, by decide +kernel, by kernel_rfl⟩⟩⟩
theorem ok51 : OkF Tryd.prog (dcOf Tryd.prog) 51 Zz.F_impl_StateOk := Or.inl ⟨rfl, ⟨⟨Tryd.f51, _, Tryd.func51, rfl, by kernel_rfl, by kernel_rfl, by kernel_rfl, by decide +kernel, by kernel_rfl⟩⟩⟩
theorem ok52 : OkF Tryd.prog (dcOf Tryd.prog) 52 Zz.F_impl_isWithin := Or.inl ⟨rfl, ⟨⟨Tryd.f52, _, Tryd.func52, rfl, by kernel_rfl, by kernel_rfl, by kernel_rfl, by decide +kernel, by kernel_rfl⟩⟩⟩
theorem ok53 : OkF Tryd.prog (dcOf Tryd.prog) 53 Zz.F_impl_sizeOf := Or.inl ⟨rfl, ⟨⟨Tryd.f53, _, Tryd.func53, rfl, by kernel_rfl, by kernel_rfl, by kernel_rfl, by decide +kernel, by kernel_rfl⟩⟩⟩
theorem ok54 : OkF Tryd.prog (dcOf Tryd.prog) 54 Zz.F_impl_firstLeft := Or.inl ⟨rfl, ⟨⟨Tryd.f54, _, Tryd.func54, rfl, by kernel_rfl, by kernel_rfl, by kernel_rfl, by decide +kernel, by kernel_rfl⟩⟩⟩
theorem ok55 : OkF Tryd.prog (dcOf Tryd.prog) 55 Zz.F_impl_RatioOrder := Or.inl ⟨rfl, ⟨⟨Tryd.f55, _, Tryd.func55, rfl, by kernel_rfl, by kernel_rfl, by kernel_rfl, by decide +kernel, by kernel_rfl⟩⟩⟩
theorem ok56 : OkF Tryd.prog (dcOf Tryd.prog) 56 Zz.F_math_bits_TrailingZeros := Or.inl ⟨rfl, ⟨⟨Tryd.f56, _, Tryd.func56, rfl, by kernel_rfl, by kernel_rfl, by kernel_rfl, by decide +kernel, by kernel_rfl⟩⟩⟩
theorem ok57 : OkF Tryd.prog (dcOf Tryd.prog) 57 Zz.F_laws_eqTest := Or.inl ⟨rfl, ⟨⟨Tryd.f57, _, Tryd.func57, rfl, by kernel_rfl, by kernel_rfl, by kernel_rfl, by decide +kernel, by kernel_rfl⟩⟩⟩
theorem ok58 : OkF Tryd.prog (dcOf Tryd.prog) 58 Zz.F_spec_CountOk := Or.inl ⟨rfl, ⟨⟨Tryd.f58, _, Tryd.func58, rfl, by kernel_rfl, by kernel_rfl, by kernel_rfl, by decide +kernel, by kernel_rfl⟩⟩⟩
theorem ok59 : OkF Tryd.prog (dcOf Tryd.prog) 59 Zz.F_spec_l8Rule := Or.inl ⟨rfl, ⟨⟨Tryd.f59, _, Tryd.func59, rfl, by kernel_rfl, by kernel_rfl, by kernel_rfl, by decide +kernel, by kernel_rfl⟩⟩⟩
theorem ok60 : OkF Tryd.prog (dcOf Tryd.prog) 60 Zz.F_spec_l1Power := Or.inl ⟨rfl, ⟨⟨Tryd.f60, _, Tryd.func60, rfl, by kernel_rfl, by kernel_rfl, by kernel_rfl, by decide +kernel, by kernel_rfl⟩⟩⟩
theorem ok61 : OkF Tryd.prog (dcOf Tryd.prog) 61 Zz.F_impl_CountOk := Or.inl ⟨rfl, ⟨⟨Tryd.f61, _, Tryd.func61, rfl, by kernel_rfl, by kernel_rfl, by kernel_rfl, by decide +kernel, by kernel_rfl⟩⟩⟩
theorem ok62 : OkF Tryd.prog (dcOf Tryd.prog) 62 Zz.F_impl_leastToCount := Or.inl ⟨rfl, ⟨⟨Tryd.f62, _, Tryd.func62, rfl, by kernel_rfl, by kernel_rfl, by kernel_rfl, by decide +kernel, by kernel_rfl⟩⟩⟩
theorem ok63 : OkF Tryd.prog (dcOf Tryd.prog) 63 Zz.F_impl_allOf := Or.inl ⟨rfl, ⟨⟨Tryd.f63, _, Tryd.func63, rfl, by kernel_rfl, by kernel_rfl, by kernel_rfl, by decide +kernel, by kernel_rfl⟩⟩⟩
theorem ok64 : OkF Tryd.prog (dcOf Tryd.prog) 64 Zz.F_impl_CountAverage_1 := Or.inl ⟨rfl, ⟨⟨Tryd.f64, _, Tryd.func64, rfl, by kernel_rfl, by kernel_rfl, by kernel_rfl, by decide +kernel, by kernel_rfl⟩⟩⟩
theorem ok94 : OkF Tryd.prog (dcOf Tryd.prog) 94 Zz.F_spec_RatioOrder := Or.inl ⟨rfl, ⟨⟨Tryd.f94, _, Tryd.func94, rfl, by kernel_rfl, by kernel_rfl, by kernel_rfl, by decide +kernel, by kernel_rfl⟩⟩⟩
theorem ok95 : OkF Tryd.prog (dcOf Tryd.prog) 95 Zz.F_impl_manyOk := Or.inl ⟨rfl, ⟨⟨Tryd.f95, _, Tryd.func95, rfl, by kernel_rfl, by kernel_rfl, by kernel_rfl, by decide +kernel, by kernel_rfl⟩⟩⟩
theorem ok96 : OkF Tryd.prog (dcOf Tryd.prog) 96 Zz.F_impl_statesOf := Or.inl ⟨rfl, ⟨⟨Tryd.f96, _, Tryd.func96, rfl, by kernel_rfl, by kernel_rfl, by kernel_rfl, by decide +kernel, by kernel_rfl⟩⟩⟩
theorem ok97 : OkF Tryd.prog (dcOf Tryd.prog) 97 Zz.F_math_bits_OnesCount := Or.inl ⟨rfl, ⟨⟨Tryd.f97, _, Tryd.func97, rfl, by kernel_rfl, by kernel_rfl, by kernel_rfl, by decide +kernel, by kernel_rfl⟩⟩⟩
theorem ok98 : OkF Tryd.prog (dcOf Tryd.prog) 98 Zz.F_impl_hasTest := Or.inl ⟨rfl, ⟨⟨Tryd.f98, _, Tryd.func98, rfl, by kernel_rfl, by kernel_rfl, by kernel_rfl, by decide +kernel, by kernel_rfl⟩⟩⟩
theorem ok99 : OkF Tryd.prog (dcOf Tryd.prog) 99 Zz.F_impl_rowOk := Or.inl ⟨rfl, ⟨⟨Tryd.f99, _, Tryd.func99, rfl, by kernel_rfl, by kernel_rfl, by kernel_rfl, by decide +kernel, by kernel_rfl⟩⟩⟩
theorem ok100 : OkF Tryd.prog (dcOf Tryd.prog) 100 Zz.F_impl_RatioOrder_1 := Or.inl ⟨rfl, ⟨⟨Tryd.f100, _, Tryd.func100, rfl, by kernel_rfl, by kernel_rfl, by kernel_rfl, by decide +kernel, by kernel_rfl⟩⟩⟩
theorem ok101 : OkF Tryd.prog (dcOf Tryd.prog) 101 Zz.F_impl_ratioOf := Or.inl ⟨rfl, ⟨⟨Tryd.f101, _, Tryd.func101, rfl, by kernel_rfl, by kernel_rfl, by kernel_rfl, by decide +kernel, by kernel_rfl⟩⟩⟩
theorem ok102 : OkF Tryd.prog (dcOf Tryd.prog) 102 Zz.F_impl_ratio_isLess := Or.inl ⟨rfl, ⟨⟨Tryd.f102, _, Tryd.func102, rfl, by kernel_rfl, by kernel_rfl, by kernel_rfl, by decide +kernel, by kernel_rfl⟩⟩⟩
theorem ok103 : OkF Tryd.prog (dcOf Tryd.prog) 103 Zz.F_impl_inserted_int := Or.inl ⟨rfl, ⟨⟨Tryd.f103, _, Tryd.func103, rfl, by kernel_rfl, by kernel_rfl, by kernel_rfl, by decide +kernel, by kernel_rfl⟩⟩⟩
theorem ok105 : OkF Tryd.prog (dcOf Tryd.prog) 105 Zz.F_math_bits_TrailingZeros64 := Or.inl ⟨rfl, ⟨⟨Tryd.f105, _, Tryd.func105, rfl, by kernel_rfl, by kernel_rfl, by kernel_rfl, by decide +kernel, by kernel_rfl⟩⟩⟩
theorem ok106 : OkF Tryd.prog (dcOf Tryd.prog) 106 Zz.F_impl_averageAsking := Or.inl ⟨rfl, ⟨⟨Tryd.f106, _, Tryd.func106, rfl, by kernel_rfl, by kernel_rfl, by kernel_rfl, by decide +kernel, by kernel_rfl⟩⟩⟩
theorem ok133 : OkF Tryd.prog (dcOf Tryd.prog) 133 Zz.F_spec_l5Ends := Or.inl ⟨rfl, ⟨⟨Tryd.f133, _, Tryd.func133, rfl, by kernel_rfl, by kernel_rfl, by kernel_rfl, by decide +kernel, by kernel_rfl⟩⟩⟩
theorem ok135 : OkF Tryd.prog (dcOf Tryd.prog) 135 Zz.F_math_bits_OnesCount64 := Or.inl ⟨rfl, ⟨⟨Tryd.f135, _, Tryd.func135, rfl, by kernel_rfl, by kernel_rfl, by kernel_rfl, by decide +kernel, by kernel_rfl⟩⟩⟩
theorem ok136 : OkF Tryd.prog (dcOf Tryd.prog) 136 Zz.F_impl_endChance := Or.inl ⟨rfl, ⟨⟨Tryd.f136, _, Tryd.func136, rfl, by kernel_rfl, by kernel_rfl, by kernel_rfl, by decide +kernel, by kernel_rfl⟩⟩⟩
set_option maxRecDepth 100000 in
theorem ok137 : OkF Tryd.prog (dcOf Tryd.prog) 137 Zz.F_slices_Insert_int_int := Or.inr ⟨insP, rfl, ins_sound insLays (by kernel_rfl)⟩
theorem ok138 : OkF Tryd.prog (dcOf Tryd.prog) 138 Zz.F_impl_wholeOf := Or.inl ⟨rfl, ⟨⟨Tryd.f138, _, Tryd.func138, rfl, by kernel_rfl, by kernel_rfl, by kernel_rfl, by decide +kernel, by kernel_rfl⟩⟩⟩
theorem ok150 : OkF Tryd.prog (dcOf Tryd.prog) 150 Zz.F_slices_rotateRight_int := Or.inl ⟨rfl, ⟨⟨Tryd.f150, _, Tryd.func150, rfl, by kernel_rfl, by kernel_rfl, by kernel_rfl, by decide +kernel, by kernel_rfl⟩⟩⟩
theorem ok155 : OkF Tryd.prog (dcOf Tryd.prog) 155 Zz.F_slices_rotateLeft_int := Or.inl ⟨rfl, ⟨⟨Tryd.f155, _, Tryd.func155, rfl, by kernel_rfl, by kernel_rfl, by kernel_rfl, by decide +kernel, by kernel_rfl⟩⟩⟩
theorem ok157 : OkF Tryd.prog (dcOf Tryd.prog) 157 Zz.F_slices_Reverse_int_int := Or.inl ⟨rfl, ⟨⟨Tryd.f157, _, Tryd.func157, rfl, by kernel_rfl, by kernel_rfl, by kernel_rfl, by decide +kernel, by kernel_rfl⟩⟩⟩
theorem mixed : Tryd.prog.follows .mixedOrders = true := by kernel_rfl
theorem okAll : ∀ f F, Zz.lf f = some F → OkF Tryd.prog (dcOf Tryd.prog) f F := by
  intro f F h
  unfold Zz.lf at h
  split at h
  · injection h with h; subst h; exact ok3
  · injection h with h; subst h; exact ok4
  · injection h with h; subst h; exact ok10
  · injection h with h; subst h; exact ok11
  · injection h with h; subst h; exact ok12
  · injection h with h; subst h; exact ok13
  · injection h with h; subst h; exact ok14
  · injection h with h; subst h; exact ok15
  · injection h with h; subst h; exact ok16
  · injection h with h; subst h; exact ok44
  · injection h with h; subst h; exact ok45
  · injection h with h; subst h; exact ok46
  · injection h with h; subst h; exact ok47
  · injection h with h; subst h; exact ok48
  · injection h with h; subst h; exact ok49
  · injection h with h; subst h; exact ok50
  · injection h with h; subst h; exact ok51
  · injection h with h; subst h; exact ok52
  · injection h with h; subst h; exact ok53
  · injection h with h; subst h; exact ok54
  · injection h with h; subst h; exact ok55
  · injection h with h; subst h; exact ok56
  · injection h with h; subst h; exact ok57
  · injection h with h; subst h; exact ok58
  · injection h with h; subst h; exact ok59
  · injection h with h; subst h; exact ok60
  · injection h with h; subst h; exact ok61
  · injection h with h; subst h; exact ok62
  · injection h with h; subst h; exact ok63
  · injection h with h; subst h; exact ok64
  · injection h with h; subst h; exact ok94
  · injection h with h; subst h; exact ok95
  · injection h with h; subst h; exact ok96
  · injection h with h; subst h; exact ok97
  · injection h with h; subst h; exact ok98
  · injection h with h; subst h; exact ok99
  · injection h with h; subst h; exact ok100
  · injection h with h; subst h; exact ok101
  · injection h with h; subst h; exact ok102
  · injection h with h; subst h; exact ok103
  · injection h with h; subst h; exact ok105
  · injection h with h; subst h; exact ok106
  · injection h with h; subst h; exact ok133
  · injection h with h; subst h; exact ok135
  · injection h with h; subst h; exact ok136
  · injection h with h; subst h; exact ok137
  · injection h with h; subst h; exact ok138
  · injection h with h; subst h; exact ok150
  · injection h with h; subst h; exact ok155
  · injection h with h; subst h; exact ok157
  · cases h
theorem said {f : Nat} {args : List DV} {r : DV × List DV} (h : call Zz.lf f args = some r) : CallSpec Tryd.prog f args r := call_sound okAll (draw_ok mixed) h
end Go.Proofs.YtahkmbihhkjebaaDoor.oks
