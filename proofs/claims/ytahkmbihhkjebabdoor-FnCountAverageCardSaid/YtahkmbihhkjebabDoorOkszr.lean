/- That the data is what the program says, function by function. No conditions. -/
import Derived.Test.YtahkmbihhkjebabDoorIrzr
import Derived.Test.YtahkmbihhkjebabDoorLgD
import Derived.Test.YtahkmbihhkjebabDoorRows
set_option linter.unusedSectionVars false
set_option linter.unusedVariables false
set_option linter.unusedSimpArgs false
namespace Go.Proofs.YtahkmbihhkjebabDoor.oks
open Go.Lg Zz
def insRen : Go.Shelf.Ren := ⟨fun x => if x = 21 then 114 else if x = 27 then 152 else if x = 28 then 153 else if x = 35 then 165 else if x = 39 then 170 else x, fun x => if x = 0 then 0 else if x = 3 then 3 else if x = 4 then 4 else if x = 22 then 34 else x, fun x => x⟩
theorem insLays : Lays2.n21 Tryd.prog insRen := { mixed := by kernel_rfl, f21 := by kernel_rfl, f27 := by kernel_rfl, f28 := by kernel_rfl, f35 := by kernel_rfl, f39 := by kernel_rfl, t0 := Tryd.underlying0, a0 := Tryd.isAgg0, z0 := Tryd.sizeOf0, v0 := Tryd.zeroValue0, t3 := Tryd.underlying3, a3 := Tryd.isAgg3, z3 := Tryd.sizeOf3, v3 := Tryd.zeroValue3, t4 := Tryd.underlying4, a4 := Tryd.isAgg4, z4 := Tryd.sizeOf4, v4 := Tryd.zeroValue4, t22 := Tryd.underlying34, a22 := Tryd.isAgg34, z22 := Tryd.sizeOf34, v22 := Tryd.zeroValue34, i3 := by kernel_rfl }
theorem ok3 : OkF Tryd.prog (dcOf Tryd.prog) 3 Zz.F_laws_FnNextInCount := Or.inl ⟨rfl, ⟨⟨Tryd.f3, _, Tryd.func3, rfl, by kernel_rfl, by kernel_rfl, by kernel_rfl, by decide +kernel, by kernel_rfl⟩⟩⟩
theorem ok4 : OkF Tryd.prog (dcOf Tryd.prog) 4 Zz.F_laws_FnCountAverage := Or.inl ⟨rfl, ⟨⟨Tryd.f4, _, Tryd.func4, rfl, by kernel_rfl, by kernel_rfl, by kernel_rfl, by decide +kernel, by kernel_rfl⟩⟩⟩
theorem ok12 : OkF Tryd.prog (dcOf Tryd.prog) 12 Zz.F_spec_DrawNextInCount := Or.inl ⟨rfl, ⟨⟨Tryd.f12, _, Tryd.func12, rfl, by kernel_rfl, by kernel_rfl, by kernel_rfl, by decide +kernel, by kernel_rfl⟩⟩⟩
theorem ok13 : OkF Tryd.prog (dcOf Tryd.prog) 13 Zz.F_impl_NextInCount := Or.inl ⟨rfl, ⟨⟨Tryd.f13, _, Tryd.func13, rfl, by kernel_rfl, by kernel_rfl, by kernel_rfl, by decide +kernel, by kernel_rfl⟩⟩⟩
theorem ok14 : OkF Tryd.prog (dcOf Tryd.prog) 14 Zz.F_spec_NextInCount := Or.inl ⟨rfl, ⟨⟨Tryd.f14, _, Tryd.func14, rfl, by kernel_rfl, by kernel_rfl, by kernel_rfl, by decide +kernel, by kernel_rfl⟩⟩⟩
theorem ok15 : OkF Tryd.prog (dcOf Tryd.prog) 15 Zz.F_laws_alive := Or.inl ⟨rfl, ⟨⟨Tryd.f15, _, Tryd.func15, rfl, by kernel_rfl, by kernel_rfl, by kernel_rfl, by decide +kernel, by kernel_rfl⟩⟩⟩
theorem ok16 : OkF Tryd.prog (dcOf Tryd.prog) 16 Zz.F_impl_OtherTests := Or.inl ⟨rfl, ⟨⟨Tryd.f16, _, Tryd.func16, rfl, by kernel_rfl, by kernel_rfl, by kernel_rfl, by decide +kernel, by kernel_rfl⟩⟩⟩
theorem ok17 : OkF Tryd.prog (dcOf Tryd.prog) 17 Zz.F_spec_DrawCountAverage := Or.inl ⟨rfl, ⟨⟨Tryd.f17, _, Tryd.func17, rfl, by kernel_rfl, by kernel_rfl, by kernel_rfl, by decide +kernel, by kernel_rfl⟩⟩⟩
theorem ok18 : OkF Tryd.prog (dcOf Tryd.prog) 18 Zz.F_impl_CountAverage := Or.inl ⟨rfl, ⟨⟨Tryd.f18, _, Tryd.func18, rfl, by kernel_rfl, by kernel_rfl, by kernel_rfl, by decide +kernel, by kernel_rfl⟩⟩⟩
theorem ok19 : OkF Tryd.prog (dcOf Tryd.prog) 19 Zz.F_spec_CountAverage := Or.inl ⟨rfl, ⟨⟨Tryd.f19, _, Tryd.func19, rfl, by kernel_rfl, by kernel_rfl, by kernel_rfl, by decide +kernel, by kernel_rfl⟩⟩⟩
theorem ok20 : OkF Tryd.prog (dcOf Tryd.prog) 20 Zz.F_impl_RowAverage := Or.inl ⟨rfl, ⟨⟨Tryd.f20, _, Tryd.func20, rfl, by kernel_rfl, by kernel_rfl, by kernel_rfl, by decide +kernel, by kernel_rfl⟩⟩⟩
theorem ok21 : OkF Tryd.prog (dcOf Tryd.prog) 21 Zz.F_impl_RatioOrder := Or.inl ⟨rfl, ⟨⟨Tryd.f21, _, Tryd.func21, rfl, by kernel_rfl, by kernel_rfl, by kernel_rfl, by decide +kernel, by kernel_rfl⟩⟩⟩
theorem ok22 : OkF Tryd.prog (dcOf Tryd.prog) 22 Zz.F_impl_CountBest := Or.inl ⟨rfl, ⟨⟨Tryd.f22, _, Tryd.func22, rfl, by kernel_rfl, by kernel_rfl, by kernel_rfl, by decide +kernel, by kernel_rfl⟩⟩⟩
theorem ok29 : OkF Tryd.prog (dcOf Tryd.prog) 29 Zz.F_spec_TestsOk := Or.inl ⟨rfl, ⟨⟨Tryd.f29, _, Tryd.func29, rfl, by kernel_rfl, by kernel_rfl, by kernel_rfl, by decide +kernel, by kernel_rfl⟩⟩⟩
theorem ok47 : OkF Tryd.prog (dcOf Tryd.prog) 47 Zz.F_spec_l20Open := Or.inl ⟨rfl, ⟨⟨Tryd.f47, _, Tryd.func47, rfl, by kernel_rfl, by kernel_rfl, by kernel_rfl, by decide +kernel, by kernel_rfl⟩⟩⟩
theorem ok48 : OkF Tryd.prog (dcOf Tryd.prog) 48 Zz.F_spec_l20Tests := Or.inl ⟨rfl, ⟨⟨Tryd.f48, _, Tryd.func48, rfl, by kernel_rfl, by kernel_rfl, by kernel_rfl, by decide +kernel, by kernel_rfl⟩⟩⟩
theorem ok49 : OkF Tryd.prog (dcOf Tryd.prog) 49 Zz.F_spec_l20Rd_pick := Or.inl ⟨rfl, ⟨⟨Tryd.f49, _, Tryd.func49, rfl, by kernel_rfl, by kernel_rfl, by kernel_rfl, by decide +kernel, by kernel_rfl⟩⟩⟩
theorem ok50 : OkF Tryd.prog (dcOf Tryd.prog) 50 Zz.F_spec_l8Heads := Or.inl ⟨rfl, ⟨⟨Tryd.f50, _, Tryd.func50, rfl, by kernel_rfl, by kernel_rfl, by kernel_rfl, by decide +kernel, by kernel_rfl⟩⟩⟩
theorem ok51 : OkF Tryd.prog (dcOf Tryd.prog) 51 Zz.F_impl_TestsOk := Or.inl ⟨rfl, ⟨⟨Tryd.f51, _, Tryd.func51, rfl, by kernel_rfl, by kernel_rfl, by kernel_rfl, by decide +kernel, by kernel_rfl⟩⟩⟩
theorem ok52 : OkF Tryd.prog (dcOf Tryd.prog) 52 Zz.F_impl_StateOk := Or.inl ⟨rfl, ⟨⟨Tryd.f52, _, Tryd.func52, rfl, by kernel_rfl, by kernel_rfl, by kernel_rfl, by decide +kernel, by kernel_rfl⟩⟩⟩
theorem ok53 : OkF Tryd.prog (dcOf Tryd.prog) 53 Zz.F_impl_isWithin := Or.inl ⟨rfl, ⟨⟨Tryd.f53, _, Tryd.func53, rfl, by kernel_rfl, by kernel_rfl, by kernel_rfl, by decide +kernel, by kernel_rfl⟩⟩⟩
theorem ok54 : OkF Tryd.prog (dcOf Tryd.prog) 54 Zz.F_impl_sizeOf := Or.inl ⟨rfl, ⟨⟨Tryd.f54, _, Tryd.func54, rfl, by kernel_rfl, by kernel_rfl, by kernel_rfl, by decide +kernel, by kernel_rfl⟩⟩⟩
theorem ok55 : OkF Tryd.prog (dcOf Tryd.prog) 55 Zz.F_impl_firstLeft := Or.inl ⟨rfl, ⟨⟨Tryd.f55, _, Tryd.func55, rfl, by kernel_rfl, by kernel_rfl, by kernel_rfl, by decide +kernel, by kernel_rfl⟩⟩⟩
theorem ok56 : OkF Tryd.prog (dcOf Tryd.prog) 56 Zz.F_math_bits_TrailingZeros := Or.inl ⟨rfl, ⟨⟨Tryd.f56, _, Tryd.func56, rfl, by kernel_rfl, by kernel_rfl, by kernel_rfl, by decide +kernel, by kernel_rfl⟩⟩⟩
theorem ok57 : OkF Tryd.prog (dcOf Tryd.prog) 57 Zz.F_spec_StateOk := Or.inl ⟨rfl, ⟨⟨Tryd.f57, _, Tryd.func57, rfl, by kernel_rfl, by kernel_rfl, by kernel_rfl, by decide +kernel, by kernel_rfl⟩⟩⟩
theorem ok58 : OkF Tryd.prog (dcOf Tryd.prog) 58 Zz.F_spec_l1In := Or.inl ⟨rfl, ⟨⟨Tryd.f58, _, Tryd.func58, rfl, by kernel_rfl, by kernel_rfl, by kernel_rfl, by decide +kernel, by kernel_rfl⟩⟩⟩
theorem ok59 : OkF Tryd.prog (dcOf Tryd.prog) 59 Zz.F_spec_l8First := Or.inl ⟨rfl, ⟨⟨Tryd.f59, _, Tryd.func59, rfl, by kernel_rfl, by kernel_rfl, by kernel_rfl, by decide +kernel, by kernel_rfl⟩⟩⟩
theorem ok60 : OkF Tryd.prog (dcOf Tryd.prog) 60 Zz.F_spec_l20Count := Or.inl ⟨rfl, ⟨⟨Tryd.f60, _, Tryd.func60, rfl, by kernel_rfl, by kernel_rfl, by kernel_rfl, by decide +kernel, by kernel_rfl⟩⟩⟩
theorem ok61 : OkF Tryd.prog (dcOf Tryd.prog) 61 Zz.F_impl_CountOk := Or.inl ⟨rfl, ⟨⟨Tryd.f61, _, Tryd.func61, rfl, by kernel_rfl, by kernel_rfl, by kernel_rfl, by decide +kernel, by kernel_rfl⟩⟩⟩
theorem ok62 : OkF Tryd.prog (dcOf Tryd.prog) 62 Zz.F_impl_leastToCount := Or.inl ⟨rfl, ⟨⟨Tryd.f62, _, Tryd.func62, rfl, by kernel_rfl, by kernel_rfl, by kernel_rfl, by decide +kernel, by kernel_rfl⟩⟩⟩
theorem ok63 : OkF Tryd.prog (dcOf Tryd.prog) 63 Zz.F_impl_allOf := Or.inl ⟨rfl, ⟨⟨Tryd.f63, _, Tryd.func63, rfl, by kernel_rfl, by kernel_rfl, by kernel_rfl, by decide +kernel, by kernel_rfl⟩⟩⟩
theorem ok64 : OkF Tryd.prog (dcOf Tryd.prog) 64 Zz.F_impl_CountAverage_1 := Or.inl ⟨rfl, ⟨⟨Tryd.f64, _, Tryd.func64, rfl, by kernel_rfl, by kernel_rfl, by kernel_rfl, by decide +kernel, by kernel_rfl⟩⟩⟩
theorem ok65 : OkF Tryd.prog (dcOf Tryd.prog) 65 Zz.F_spec_CountOk := Or.inl ⟨rfl, ⟨⟨Tryd.f65, _, Tryd.func65, rfl, by kernel_rfl, by kernel_rfl, by kernel_rfl, by decide +kernel, by kernel_rfl⟩⟩⟩
theorem ok66 : OkF Tryd.prog (dcOf Tryd.prog) 66 Zz.F_spec_l8Rule := Or.inl ⟨rfl, ⟨⟨Tryd.f66, _, Tryd.func66, rfl, by kernel_rfl, by kernel_rfl, by kernel_rfl, by decide +kernel, by kernel_rfl⟩⟩⟩
theorem ok67 : OkF Tryd.prog (dcOf Tryd.prog) 67 Zz.F_spec_l1Power := Or.inl ⟨rfl, ⟨⟨Tryd.f67, _, Tryd.func67, rfl, by kernel_rfl, by kernel_rfl, by kernel_rfl, by decide +kernel, by kernel_rfl⟩⟩⟩
theorem ok68 : OkF Tryd.prog (dcOf Tryd.prog) 68 Zz.F_impl_OrderOk := Or.inl ⟨rfl, ⟨⟨Tryd.f68, _, Tryd.func68, rfl, by kernel_rfl, by kernel_rfl, by kernel_rfl, by decide +kernel, by kernel_rfl⟩⟩⟩
theorem ok69 : OkF Tryd.prog (dcOf Tryd.prog) 69 Zz.F_impl_rowOk := Or.inl ⟨rfl, ⟨⟨Tryd.f69, _, Tryd.func69, rfl, by kernel_rfl, by kernel_rfl, by kernel_rfl, by decide +kernel, by kernel_rfl⟩⟩⟩
theorem ok70 : OkF Tryd.prog (dcOf Tryd.prog) 70 Zz.F_impl_wholeOf := Or.inl ⟨rfl, ⟨⟨Tryd.f70, _, Tryd.func70, rfl, by kernel_rfl, by kernel_rfl, by kernel_rfl, by decide +kernel, by kernel_rfl⟩⟩⟩
theorem ok71 : OkF Tryd.prog (dcOf Tryd.prog) 71 Zz.F_impl_endChance := Or.inl ⟨rfl, ⟨⟨Tryd.f71, _, Tryd.func71, rfl, by kernel_rfl, by kernel_rfl, by kernel_rfl, by decide +kernel, by kernel_rfl⟩⟩⟩
theorem ok72 : OkF Tryd.prog (dcOf Tryd.prog) 72 Zz.F_impl_RatioOrder_1 := Or.inl ⟨rfl, ⟨⟨Tryd.f72, _, Tryd.func72, rfl, by kernel_rfl, by kernel_rfl, by kernel_rfl, by decide +kernel, by kernel_rfl⟩⟩⟩
theorem ok73 : OkF Tryd.prog (dcOf Tryd.prog) 73 Zz.F_impl_ratioOf := Or.inl ⟨rfl, ⟨⟨Tryd.f73, _, Tryd.func73, rfl, by kernel_rfl, by kernel_rfl, by kernel_rfl, by decide +kernel, by kernel_rfl⟩⟩⟩
theorem ok74 : OkF Tryd.prog (dcOf Tryd.prog) 74 Zz.F_impl_ratio_isLess := Or.inl ⟨rfl, ⟨⟨Tryd.f74, _, Tryd.func74, rfl, by kernel_rfl, by kernel_rfl, by kernel_rfl, by decide +kernel, by kernel_rfl⟩⟩⟩
theorem ok75 : OkF Tryd.prog (dcOf Tryd.prog) 75 Zz.F_impl_inserted_int := Or.inl ⟨rfl, ⟨⟨Tryd.f75, _, Tryd.func75, rfl, by kernel_rfl, by kernel_rfl, by kernel_rfl, by decide +kernel, by kernel_rfl⟩⟩⟩
theorem ok76 : OkF Tryd.prog (dcOf Tryd.prog) 76 Zz.F_impl_CountBest_1 := Or.inl ⟨rfl, ⟨⟨Tryd.f76, _, Tryd.func76, rfl, by kernel_rfl, by kernel_rfl, by kernel_rfl, by decide +kernel, by kernel_rfl⟩⟩⟩
theorem ok82 : OkF Tryd.prog (dcOf Tryd.prog) 82 Zz.F_impl_manyOk := Or.inl ⟨rfl, ⟨⟨Tryd.f82, _, Tryd.func82, rfl, by kernel_rfl, by kernel_rfl, by kernel_rfl, by decide +kernel, by kernel_rfl⟩⟩⟩
theorem ok87 : OkF Tryd.prog (dcOf Tryd.prog) 87 Zz.F_impl_statesOf := Or.inl ⟨rfl, ⟨⟨Tryd.f87, _, Tryd.func87, rfl, by kernel_rfl, by kernel_rfl, by kernel_rfl, by decide +kernel, by kernel_rfl⟩⟩⟩
theorem ok107 : OkF Tryd.prog (dcOf Tryd.prog) 107 Zz.F_spec_l20Rd_odd := Or.inl ⟨rfl, ⟨⟨Tryd.f107, _, Tryd.func107, rfl, by kernel_rfl, by kernel_rfl, by kernel_rfl, by decide +kernel, by kernel_rfl⟩⟩⟩
theorem ok108 : OkF Tryd.prog (dcOf Tryd.prog) 108 Zz.F_math_bits_OnesCount := Or.inl ⟨rfl, ⟨⟨Tryd.f108, _, Tryd.func108, rfl, by kernel_rfl, by kernel_rfl, by kernel_rfl, by decide +kernel, by kernel_rfl⟩⟩⟩
theorem ok109 : OkF Tryd.prog (dcOf Tryd.prog) 109 Zz.F_impl_hasTest := Or.inl ⟨rfl, ⟨⟨Tryd.f109, _, Tryd.func109, rfl, by kernel_rfl, by kernel_rfl, by kernel_rfl, by decide +kernel, by kernel_rfl⟩⟩⟩
theorem ok111 : OkF Tryd.prog (dcOf Tryd.prog) 111 Zz.F_math_bits_TrailingZeros64 := Or.inl ⟨rfl, ⟨⟨Tryd.f111, _, Tryd.func111, rfl, by kernel_rfl, by kernel_rfl, by kernel_rfl, by decide +kernel, by kernel_rfl⟩⟩⟩
theorem ok112 : OkF Tryd.prog (dcOf Tryd.prog) 112 Zz.F_spec_RatioOrder := Or.inl ⟨rfl, ⟨⟨Tryd.f112, _, Tryd.func112, rfl, by kernel_rfl, by kernel_rfl, by kernel_rfl, by decide +kernel, by kernel_rfl⟩⟩⟩
theorem ok113 : OkF Tryd.prog (dcOf Tryd.prog) 113 Zz.F_impl_averageAsking := Or.inl ⟨rfl, ⟨⟨Tryd.f113, _, Tryd.func113, rfl, by kernel_rfl, by kernel_rfl, by kernel_rfl, by decide +kernel, by kernel_rfl⟩⟩⟩
set_option maxRecDepth 100000 in
theorem ok114 : OkF Tryd.prog (dcOf Tryd.prog) 114 Zz.F_slices_Insert_int_int := Or.inr ⟨insP, rfl, ins_sound insLays (by kernel_rfl)⟩
theorem ok150 : OkF Tryd.prog (dcOf Tryd.prog) 150 Zz.F_math_bits_OnesCount64 := Or.inl ⟨rfl, ⟨⟨Tryd.f150, _, Tryd.func150, rfl, by kernel_rfl, by kernel_rfl, by kernel_rfl, by decide +kernel, by kernel_rfl⟩⟩⟩
theorem ok151 : OkF Tryd.prog (dcOf Tryd.prog) 151 Zz.F_spec_l5Ends := Or.inl ⟨rfl, ⟨⟨Tryd.f151, _, Tryd.func151, rfl, by kernel_rfl, by kernel_rfl, by kernel_rfl, by decide +kernel, by kernel_rfl⟩⟩⟩
theorem ok153 : OkF Tryd.prog (dcOf Tryd.prog) 153 Zz.F_slices_rotateRight_int := Or.inl ⟨rfl, ⟨⟨Tryd.f153, _, Tryd.func153, rfl, by kernel_rfl, by kernel_rfl, by kernel_rfl, by decide +kernel, by kernel_rfl⟩⟩⟩
theorem ok165 : OkF Tryd.prog (dcOf Tryd.prog) 165 Zz.F_slices_rotateLeft_int := Or.inl ⟨rfl, ⟨⟨Tryd.f165, _, Tryd.func165, rfl, by kernel_rfl, by kernel_rfl, by kernel_rfl, by decide +kernel, by kernel_rfl⟩⟩⟩
theorem ok170 : OkF Tryd.prog (dcOf Tryd.prog) 170 Zz.F_slices_Reverse_int_int := Or.inl ⟨rfl, ⟨⟨Tryd.f170, _, Tryd.func170, rfl, by kernel_rfl, by kernel_rfl, by kernel_rfl, by decide +kernel, by kernel_rfl⟩⟩⟩
theorem mixed : Tryd.prog.follows .mixedOrders = true := by kernel_rfl
theorem okAll : ∀ f F, Zz.lf f = some F → OkF Tryd.prog (dcOf Tryd.prog) f F := by
  intro f F h
  unfold Zz.lf at h
  split at h
  · injection h with h; subst h; exact ok3
  · injection h with h; subst h; exact ok4
  · injection h with h; subst h; exact ok12
  · injection h with h; subst h; exact ok13
  · injection h with h; subst h; exact ok14
  · injection h with h; subst h; exact ok15
  · injection h with h; subst h; exact ok16
  · injection h with h; subst h; exact ok17
  · injection h with h; subst h; exact ok18
  · injection h with h; subst h; exact ok19
  · injection h with h; subst h; exact ok20
  · injection h with h; subst h; exact ok21
  · injection h with h; subst h; exact ok22
  · injection h with h; subst h; exact ok29
  · injection h with h; subst h; exact ok47
  · injection h with h; subst h; exact ok48
  · injection h with h; subst h; exact ok49
  · injection h with h; subst h; exact ok50
  · injection h with h; subst h; exact ok51
  · injection h with h; subst h; exact ok52
  · injection h with h; subst h; exact ok53
  · injection h with h; subst h; exact ok54
  · injection h with h; subst h; exact ok55
  · injection h with h; subst h; exact ok56
  · injection h with h; subst h; exact ok57
  · injection h with h; subst h; exact ok58
  · injection h with h; subst h; exact ok59
  · injection h with h; subst h; exact ok60
  · injection h with h; subst h; exact ok61
  · injection h with h; subst h; exact ok62
  · injection h with h; subst h; exact ok63
  · injection h with h; subst h; exact ok64
  · injection h with h; subst h; exact ok65
  · injection h with h; subst h; exact ok66
  · injection h with h; subst h; exact ok67
  · injection h with h; subst h; exact ok68
  · injection h with h; subst h; exact ok69
  · injection h with h; subst h; exact ok70
  · injection h with h; subst h; exact ok71
  · injection h with h; subst h; exact ok72
  · injection h with h; subst h; exact ok73
  · injection h with h; subst h; exact ok74
  · injection h with h; subst h; exact ok75
  · injection h with h; subst h; exact ok76
  · injection h with h; subst h; exact ok82
  · injection h with h; subst h; exact ok87
  · injection h with h; subst h; exact ok107
  · injection h with h; subst h; exact ok108
  · injection h with h; subst h; exact ok109
  · injection h with h; subst h; exact ok111
  · injection h with h; subst h; exact ok112
  · injection h with h; subst h; exact ok113
  · injection h with h; subst h; exact ok114
  · injection h with h; subst h; exact ok150
  · injection h with h; subst h; exact ok151
  · injection h with h; subst h; exact ok153
  · injection h with h; subst h; exact ok165
  · injection h with h; subst h; exact ok170
  · cases h
theorem said {f : Nat} {args : List DV} {r : DV × List DV} (h : call Zz.lf f args = some r) : CallSpec Tryd.prog f args r := call_sound okAll (draw_ok mixed) h
end Go.Proofs.YtahkmbihhkjebabDoor.oks
