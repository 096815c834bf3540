/- That the data is what the program says, function by function. No conditions. -/
import Derived.Test.YtkokclaabaepaaaIrzb
import Derived.Test.YtkokclaabaepaaaLgD
import Derived.Test.YtkokclaabaepaaaLgEzb
import Derived.Test.YtkokclaabaepaaaRows
set_option linter.unusedSectionVars false
set_option linter.unusedVariables false
set_option linter.unusedSimpArgs false
namespace Go.Proofs.Ytkokclaabaepaaa.oks
open Go.Lg Zz
def insRen : Go.Shelf.Ren := ⟨fun x => if x = 21 then 98 else if x = 27 then 105 else if x = 28 then 106 else if x = 35 then 112 else if x = 39 then 118 else x, fun x => if x = 0 then 0 else if x = 3 then 3 else if x = 4 then 4 else if x = 22 then 29 else x, fun x => x⟩
theorem insLays : Lays2.n21 Try.prog insRen := { mixed := by kernel_rfl, f21 := by kernel_rfl, f27 := by kernel_rfl, f28 := by kernel_rfl, f35 := by kernel_rfl, f39 := by kernel_rfl, t0 := Try.underlying0, a0 := Try.isAgg0, z0 := Try.sizeOf0, v0 := Try.zeroValue0, t3 := Try.underlying3, a3 := Try.isAgg3, z3 := Try.sizeOf3, v3 := Try.zeroValue3, t4 := Try.underlying4, a4 := Try.isAgg4, z4 := Try.sizeOf4, v4 := Try.zeroValue4, t22 := Try.underlying29, a22 := Try.isAgg29, z22 := Try.sizeOf29, v22 := Try.zeroValue29, i3 := by kernel_rfl }
theorem ok4 : OkF Try.prog (dcOf Try.prog) 4 Zz.F_laws_FnBestRounds := Or.inl ⟨rfl, ⟨⟨Try.f4, _, Try.func4, rfl, by kernel_rfl, by kernel_rfl, by kernel_rfl, by decide +kernel, by kernel_rfl⟩⟩⟩
theorem ok6 : OkF Try.prog (dcOf Try.prog) 6 Zz.F_laws_FnRoundsFee := Or.inl ⟨rfl, ⟨⟨Try.f6, _, Try.func6, rfl, by kernel_rfl, by kernel_rfl, by kernel_rfl, by decide +kernel, by kernel_rfl⟩⟩⟩
theorem ok15 : OkF Try.prog (dcOf Try.prog) 15 Zz.F_impl_RoundAverage := Or.inl ⟨rfl, ⟨⟨Try.f15, _, Try.func15, rfl, by kernel_rfl, by kernel_rfl, by kernel_rfl, by decide +kernel, by kernel_rfl⟩⟩⟩
theorem ok17 : OkF Try.prog (dcOf Try.prog) 17 Zz.F_laws_alive := Or.inl ⟨rfl, ⟨⟨Try.f17, _, Try.func17, rfl, by kernel_rfl, by kernel_rfl, by kernel_rfl, by decide +kernel, by kernel_rfl⟩⟩⟩
theorem ok18 : OkF Try.prog (dcOf Try.prog) 18 Zz.F_laws_power := Or.inl ⟨rfl, ⟨⟨Try.f18, _, Try.func18, rfl, by kernel_rfl, by kernel_rfl, by kernel_rfl, by decide +kernel, by kernel_rfl⟩⟩⟩
theorem ok19 : OkF Try.prog (dcOf Try.prog) 19 Zz.F_impl_RowAverage := Or.inl ⟨rfl, ⟨⟨Try.f19, _, Try.func19, rfl, by kernel_rfl, by kernel_rfl, by kernel_rfl, by decide +kernel, by kernel_rfl⟩⟩⟩
theorem ok20 : OkF Try.prog (dcOf Try.prog) 20 Zz.F_spec_DrawBestRounds := Or.inl ⟨rfl, ⟨⟨Try.f20, _, Try.func20, rfl, by kernel_rfl, by kernel_rfl, by kernel_rfl, by decide +kernel, by kernel_rfl⟩⟩⟩
theorem ok21 : OkF Try.prog (dcOf Try.prog) 21 Zz.F_impl_BestRounds := Or.inl ⟨rfl, ⟨⟨Try.f21, _, Try.func21, rfl, by kernel_rfl, by kernel_rfl, by kernel_rfl, by decide +kernel, by kernel_rfl⟩⟩⟩
theorem ok22 : OkF Try.prog (dcOf Try.prog) 22 Zz.F_spec_BestRounds := Or.inl ⟨rfl, ⟨⟨Try.f22, _, Try.func22, rfl, by kernel_rfl, by kernel_rfl, by kernel_rfl, by decide +kernel, by kernel_rfl⟩⟩⟩
theorem ok23 : OkF Try.prog (dcOf Try.prog) 23 Zz.F_laws_sameRows := Or.inl ⟨rfl, ⟨⟨Try.f23, _, Try.func23, rfl, by kernel_rfl, by kernel_rfl, by kernel_rfl, by decide +kernel, by kernel_rfl⟩⟩⟩
theorem ok24 : OkF Try.prog (dcOf Try.prog) 24 Zz.F_spec_DrawGroupsOk := Or.inl ⟨rfl, ⟨⟨Try.f24, _, Try.func24, rfl, by kernel_rfl, by kernel_rfl, by kernel_rfl, by decide +kernel, by kernel_rfl⟩⟩⟩
theorem ok25 : OkF Try.prog (dcOf Try.prog) 25 Zz.F_impl_GroupsOk := Or.inl ⟨rfl, ⟨⟨Try.f25, _, Try.func25, rfl, by kernel_rfl, by kernel_rfl, by kernel_rfl, by decide +kernel, by kernel_rfl⟩⟩⟩
theorem ok26 : OkF Try.prog (dcOf Try.prog) 26 Zz.F_impl_RatioOrder := Or.inl ⟨rfl, ⟨⟨Try.f26, _, Try.func26, rfl, by kernel_rfl, by kernel_rfl, by kernel_rfl, by decide +kernel, by kernel_rfl⟩⟩⟩
theorem ok51 : OkF Try.prog (dcOf Try.prog) 51 Zz.F_spec_l20Open := Or.inl ⟨rfl, ⟨⟨Try.f51, _, Try.func51, rfl, by kernel_rfl, by kernel_rfl, by kernel_rfl, by decide +kernel, by kernel_rfl⟩⟩⟩
theorem ok53 : OkF Try.prog (dcOf Try.prog) 53 Zz.F_spec_l20Rd_pick := Or.inl ⟨rfl, ⟨⟨Try.f53, _, Try.func53, rfl, by kernel_rfl, by kernel_rfl, by kernel_rfl, by decide +kernel, by kernel_rfl⟩⟩⟩
theorem ok54 : OkF Try.prog (dcOf Try.prog) 54 Zz.F_impl_TestsOk := Or.inl ⟨rfl, ⟨⟨Try.f54, _, Try.func54, rfl, by kernel_rfl, by kernel_rfl, by kernel_rfl, by decide +kernel, by kernel_rfl⟩⟩⟩
theorem ok55 : OkF Try.prog (dcOf Try.prog) 55 Zz.F_impl_feeOk := Or.inl ⟨rfl, ⟨⟨Try.f55, _, Try.func55, rfl, by kernel_rfl, by kernel_rfl, by kernel_rfl, by decide +kernel, by kernel_rfl⟩⟩⟩
theorem ok56 : OkF Try.prog (dcOf Try.prog) 56 Zz.F_slices_Backward_int_int := Or.inl ⟨rfl, ⟨⟨Try.f56, _, Try.func56, rfl, by kernel_rfl, by kernel_rfl, by kernel_rfl, by decide +kernel, by kernel_rfl⟩⟩⟩
theorem ok57 : OkF Try.prog (dcOf Try.prog) 57 Zz.F_impl_averageOfRound := Or.inl ⟨rfl, ⟨⟨Try.f57, _, Try.func57, rfl, by kernel_rfl, by kernel_rfl, by kernel_rfl, by decide +kernel, by kernel_rfl⟩⟩⟩
theorem ok58 : OkF Try.prog (dcOf Try.prog) 58 Zz.F_impl_setOf := Or.inl ⟨rfl, ⟨⟨Try.f58, _, Try.func58, rfl, by kernel_rfl, by kernel_rfl, by kernel_rfl, by decide +kernel, by kernel_rfl⟩⟩⟩
theorem ok59 : OkF Try.prog (dcOf Try.prog) 59 Zz.F_spec_TestsOk := Or.inl ⟨rfl, ⟨⟨Try.f59, _, Try.func59, rfl, by kernel_rfl, by kernel_rfl, by kernel_rfl, by decide +kernel, by kernel_rfl⟩⟩⟩
theorem ok61 : OkF Try.prog (dcOf Try.prog) 61 Zz.F_spec_l1In := Or.inl ⟨rfl, ⟨⟨Try.f61, _, Try.func61, rfl, by kernel_rfl, by kernel_rfl, by kernel_rfl, by decide +kernel, by kernel_rfl⟩⟩⟩
theorem ok62 : OkF Try.prog (dcOf Try.prog) 62 Zz.F_spec_l1Power := Or.inl ⟨rfl, ⟨⟨Try.f62, _, Try.func62, rfl, by kernel_rfl, by kernel_rfl, by kernel_rfl, by decide +kernel, by kernel_rfl⟩⟩⟩
theorem ok63 : OkF Try.prog (dcOf Try.prog) 63 Zz.F_impl_OrderOk := Or.inl ⟨rfl, ⟨⟨Try.f63, _, Try.func63, rfl, by kernel_rfl, by kernel_rfl, by kernel_rfl, by decide +kernel, by kernel_rfl⟩⟩⟩
theorem ok64 : OkF Try.prog (dcOf Try.prog) 64 Zz.F_impl_rowOk := Or.inl ⟨rfl, ⟨⟨Try.f64, _, Try.func64, rfl, by kernel_rfl, by kernel_rfl, by kernel_rfl, by decide +kernel, by kernel_rfl⟩⟩⟩
theorem ok65 : OkF Try.prog (dcOf Try.prog) 65 Zz.F_impl_wholeOf := Or.inl ⟨rfl, ⟨⟨Try.f65, _, Try.func65, rfl, by kernel_rfl, by kernel_rfl, by kernel_rfl, by decide +kernel, by kernel_rfl⟩⟩⟩
theorem ok66 : OkF Try.prog (dcOf Try.prog) 66 Zz.F_impl_endChance := Or.inl ⟨rfl, ⟨⟨Try.f66, _, Try.func66, rfl, by kernel_rfl, by kernel_rfl, by kernel_rfl, by decide +kernel, by kernel_rfl⟩⟩⟩
theorem ok67 : OkF Try.prog (dcOf Try.prog) 67 Zz.F_spec_l20Tests := Or.inl ⟨rfl, ⟨⟨Try.f67, _, Try.func67, rfl, by kernel_rfl, by kernel_rfl, by kernel_rfl, by decide +kernel, by kernel_rfl⟩⟩⟩
theorem ok68 : OkF Try.prog (dcOf Try.prog) 68 Zz.F_impl_bestRoundsOf := Or.inl ⟨rfl, ⟨⟨Try.f68, _, Try.func68, rfl, by kernel_rfl, by kernel_rfl, by kernel_rfl, by decide +kernel, by kernel_rfl⟩⟩⟩
theorem ok69 : OkF Try.prog (dcOf Try.prog) 69 Zz.F_impl_allOf := Or.inl ⟨rfl, ⟨⟨Try.f69, _, Try.func69, rfl, by kernel_rfl, by kernel_rfl, by kernel_rfl, by decide +kernel, by kernel_rfl⟩⟩⟩
theorem ok70 : OkF Try.prog (dcOf Try.prog) 70 Zz.F_impl_rowOf := Or.inl ⟨rfl, ⟨⟨Try.f70, _, Try.func70, rfl, by kernel_rfl, by kernel_rfl, by kernel_rfl, by decide +kernel, by kernel_rfl⟩⟩⟩
theorem ok71 : OkF Try.prog (dcOf Try.prog) 71 Zz.F_spec_l10Best := Or.inl ⟨rfl, ⟨⟨Try.f71, _, Try.func71, rfl, by kernel_rfl, by kernel_rfl, by kernel_rfl, by decide +kernel, by kernel_rfl⟩⟩⟩
theorem ok72 : OkF Try.prog (dcOf Try.prog) 72 Zz.F_laws_sameInts := Or.inl ⟨rfl, ⟨⟨Try.f72, _, Try.func72, rfl, by kernel_rfl, by kernel_rfl, by kernel_rfl, by decide +kernel, by kernel_rfl⟩⟩⟩
theorem ok73 : OkF Try.prog (dcOf Try.prog) 73 Zz.F_spec_l20Groups := Or.inl ⟨rfl, ⟨⟨Try.f73, _, Try.func73, rfl, by kernel_rfl, by kernel_rfl, by kernel_rfl, by decide +kernel, by kernel_rfl⟩⟩⟩
theorem ok74 : OkF Try.prog (dcOf Try.prog) 74 Zz.F_impl_manyOk := Or.inl ⟨rfl, ⟨⟨Try.f74, _, Try.func74, rfl, by kernel_rfl, by kernel_rfl, by kernel_rfl, by decide +kernel, by kernel_rfl⟩⟩⟩
theorem ok75 : OkF Try.prog (dcOf Try.prog) 75 Zz.F_impl_isWithin := Or.inl ⟨rfl, ⟨⟨Try.f75, _, Try.func75, rfl, by kernel_rfl, by kernel_rfl, by kernel_rfl, by decide +kernel, by kernel_rfl⟩⟩⟩
theorem ok76 : OkF Try.prog (dcOf Try.prog) 76 Zz.F_impl_RatioOrder_1 := Or.inl ⟨rfl, ⟨⟨Try.f76, _, Try.func76, rfl, by kernel_rfl, by kernel_rfl, by kernel_rfl, by decide +kernel, by kernel_rfl⟩⟩⟩
theorem ok77 : OkF Try.prog (dcOf Try.prog) 77 Zz.F_impl_ratioOf := Or.inl ⟨rfl, ⟨⟨Try.f77, _, Try.func77, rfl, by kernel_rfl, by kernel_rfl, by kernel_rfl, by decide +kernel, by kernel_rfl⟩⟩⟩
theorem ok78 : OkF Try.prog (dcOf Try.prog) 78 Zz.F_impl_ratio_isLess := Or.inl ⟨rfl, ⟨⟨Try.f78, _, Try.func78, rfl, by kernel_rfl, by kernel_rfl, by kernel_rfl, by decide +kernel, by kernel_rfl⟩⟩⟩
theorem ok79 : OkF Try.prog (dcOf Try.prog) 79 Zz.F_impl_inserted_int := Or.inl ⟨rfl, ⟨⟨Try.f79, _, Try.func79, rfl, by kernel_rfl, by kernel_rfl, by kernel_rfl, by decide +kernel, by kernel_rfl⟩⟩⟩
theorem ok92 : OkF Try.prog (dcOf Try.prog) 92 Zz.F_slices_Backward_int_int_1 := Or.inl ⟨rfl, ⟨⟨Try.f92, _, Try.func92, rfl, by kernel_rfl, by kernel_rfl, by kernel_rfl, by decide +kernel, by kernel_rfl⟩⟩⟩
theorem ok93 : OkF Try.prog (dcOf Try.prog) 93 Zz.F_impl_hasTest := Or.inl ⟨rfl, ⟨⟨Try.f93, _, Try.func93, rfl, by kernel_rfl, by kernel_rfl, by kernel_rfl, by decide +kernel, by kernel_rfl⟩⟩⟩
theorem ok94 : OkF Try.prog (dcOf Try.prog) 94 Zz.F_spec_l20Rd_odd := Or.inl ⟨rfl, ⟨⟨Try.f94, _, Try.func94, rfl, by kernel_rfl, by kernel_rfl, by kernel_rfl, by decide +kernel, by kernel_rfl⟩⟩⟩
theorem ok95 : OkF Try.prog (dcOf Try.prog) 95 Zz.F_impl_sizeOf := Or.inl ⟨rfl, ⟨⟨Try.f95, _, Try.func95, rfl, by kernel_rfl, by kernel_rfl, by kernel_rfl, by decide +kernel, by kernel_rfl⟩⟩⟩
theorem ok96 : OkF Try.prog (dcOf Try.prog) 96 Zz.F_impl_statesOf := Or.inl ⟨rfl, ⟨⟨Try.f96, _, Try.func96, rfl, by kernel_rfl, by kernel_rfl, by kernel_rfl, by decide +kernel, by kernel_rfl⟩⟩⟩
theorem ok97 : OkF Try.prog (dcOf Try.prog) 97 Zz.F_spec_l20Order := Or.inl ⟨rfl, ⟨⟨Try.f97, _, Try.func97, rfl, by kernel_rfl, by kernel_rfl, by kernel_rfl, by decide +kernel, by kernel_rfl⟩⟩⟩
set_option maxRecDepth 100000 in
theorem ok98 : OkF Try.prog (dcOf Try.prog) 98 Zz.F_slices_Insert_int_int := Or.inr ⟨insP, rfl, ins_sound insLays (by kernel_rfl)⟩
theorem ok104 : OkF Try.prog (dcOf Try.prog) 104 Zz.F_math_bits_OnesCount := Or.inl ⟨rfl, ⟨⟨Try.f104, _, Try.func104, rfl, by kernel_rfl, by kernel_rfl, by kernel_rfl, by decide +kernel, by kernel_rfl⟩⟩⟩
theorem ok106 : OkF Try.prog (dcOf Try.prog) 106 Zz.F_slices_rotateRight_int := Or.inl ⟨rfl, ⟨⟨Try.f106, _, Try.func106, rfl, by kernel_rfl, by kernel_rfl, by kernel_rfl, by decide +kernel, by kernel_rfl⟩⟩⟩
theorem ok111 : OkF Try.prog (dcOf Try.prog) 111 Zz.F_math_bits_OnesCount64 := Or.inl ⟨rfl, ⟨⟨Try.f111, _, Try.func111, rfl, by kernel_rfl, by kernel_rfl, by kernel_rfl, by decide +kernel, by kernel_rfl⟩⟩⟩
theorem ok112 : OkF Try.prog (dcOf Try.prog) 112 Zz.F_slices_rotateLeft_int := Or.inl ⟨rfl, ⟨⟨Try.f112, _, Try.func112, rfl, by kernel_rfl, by kernel_rfl, by kernel_rfl, by decide +kernel, by kernel_rfl⟩⟩⟩
theorem ok118 : OkF Try.prog (dcOf Try.prog) 118 Zz.F_slices_Reverse_int_int := Or.inl ⟨rfl, ⟨⟨Try.f118, _, Try.func118, rfl, by kernel_rfl, by kernel_rfl, by kernel_rfl, by decide +kernel, by kernel_rfl⟩⟩⟩
theorem mixed : Try.prog.follows .mixedOrders = true := by kernel_rfl
theorem okAll : ∀ f F, Zz.lf f = some F → OkF Try.prog (dcOf Try.prog) f F := by
  intro f F h
  unfold Zz.lf at h
  split at h
  · injection h with h; subst h; exact ok4
  · injection h with h; subst h; exact ok6
  · injection h with h; subst h; exact ok15
  · injection h with h; subst h; exact ok17
  · injection h with h; subst h; exact ok18
  · injection h with h; subst h; exact ok19
  · injection h with h; subst h; exact ok20
  · injection h with h; subst h; exact ok21
  · injection h with h; subst h; exact ok22
  · injection h with h; subst h; exact ok23
  · injection h with h; subst h; exact ok24
  · injection h with h; subst h; exact ok25
  · injection h with h; subst h; exact ok26
  · injection h with h; subst h; exact ok51
  · injection h with h; subst h; exact ok53
  · injection h with h; subst h; exact ok54
  · injection h with h; subst h; exact ok55
  · injection h with h; subst h; exact ok56
  · injection h with h; subst h; exact ok57
  · injection h with h; subst h; exact ok58
  · injection h with h; subst h; exact ok59
  · injection h with h; subst h; exact ok61
  · injection h with h; subst h; exact ok62
  · injection h with h; subst h; exact ok63
  · injection h with h; subst h; exact ok64
  · injection h with h; subst h; exact ok65
  · injection h with h; subst h; exact ok66
  · injection h with h; subst h; exact ok67
  · injection h with h; subst h; exact ok68
  · injection h with h; subst h; exact ok69
  · injection h with h; subst h; exact ok70
  · injection h with h; subst h; exact ok71
  · injection h with h; subst h; exact ok72
  · injection h with h; subst h; exact ok73
  · injection h with h; subst h; exact ok74
  · injection h with h; subst h; exact ok75
  · injection h with h; subst h; exact ok76
  · injection h with h; subst h; exact ok77
  · injection h with h; subst h; exact ok78
  · injection h with h; subst h; exact ok79
  · injection h with h; subst h; exact ok92
  · injection h with h; subst h; exact ok93
  · injection h with h; subst h; exact ok94
  · injection h with h; subst h; exact ok95
  · injection h with h; subst h; exact ok96
  · injection h with h; subst h; exact ok97
  · injection h with h; subst h; exact ok98
  · injection h with h; subst h; exact ok104
  · injection h with h; subst h; exact ok106
  · injection h with h; subst h; exact ok111
  · injection h with h; subst h; exact ok112
  · injection h with h; subst h; exact ok118
  · cases h
theorem said {f : Nat} {args : List DV} {r : DV × List DV} (h : call Zz.lf f args = some r) : CallSpec Try.prog f args r := call_sound okAll (draw_ok mixed) back_ok h
end Go.Proofs.Ytkokclaabaepaaa.oks
