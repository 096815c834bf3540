/- That the data is what the program says, function by function. No conditions. -/
import Derived.Test.YtldepejkagfdmaaIrzd
import Derived.Test.YtldepejkagfdmaaLgD
import Derived.Test.YtldepejkagfdmaaRows
set_option linter.unusedSectionVars false
set_option linter.unusedVariables false
set_option linter.unusedSimpArgs false
namespace Go.Proofs.Ytldepejkagfdmaa.oks
open Go.Lg Zz
def insRen : Go.Shelf.Ren := ⟨fun x => if x = 21 then 97 else if x = 27 then 102 else if x = 28 then 103 else if x = 35 then 108 else if x = 39 then 111 else x, fun x => if x = 0 then 0 else if x = 3 then 3 else if x = 4 then 4 else if x = 22 then 34 else x, fun x => x⟩
theorem insLays : Lays2.n21 Try.prog insRen := { mixed := by kernel_rfl, f21 := by kernel_rfl, f27 := by kernel_rfl, f28 := by kernel_rfl, f35 := by kernel_rfl, f39 := by kernel_rfl, t0 := Try.underlying0, a0 := Try.isAgg0, z0 := Try.sizeOf0, v0 := Try.zeroValue0, t3 := Try.underlying3, a3 := Try.isAgg3, z3 := Try.sizeOf3, v3 := Try.zeroValue3, t4 := Try.underlying4, a4 := Try.isAgg4, z4 := Try.sizeOf4, v4 := Try.zeroValue4, t22 := Try.underlying34, a22 := Try.isAgg34, z22 := Try.sizeOf34, v22 := Try.zeroValue34, i3 := by kernel_rfl }
theorem ok11 : OkF Try.prog (dcOf Try.prog) 11 Zz.F_laws_FnChainOrder := Or.inl ⟨rfl, ⟨⟨Try.f11, _, Try.func11, rfl, by kernel_rfl, by kernel_rfl, by kernel_rfl, by decide +kernel, by kernel_rfl⟩⟩⟩
theorem ok24 : OkF Try.prog (dcOf Try.prog) 24 Zz.F_impl_KeepsChains := Or.inl ⟨rfl, ⟨⟨Try.f24, _, Try.func24, rfl, by kernel_rfl, by kernel_rfl, by kernel_rfl, by decide +kernel, by kernel_rfl⟩⟩⟩
theorem ok26 : OkF Try.prog (dcOf Try.prog) 26 Zz.F_spec_ChainOrder := Or.inl ⟨rfl, ⟨⟨Try.f26, _, Try.func26, rfl, by kernel_rfl, by kernel_rfl, by kernel_rfl, by decide +kernel, by kernel_rfl⟩⟩⟩
theorem ok27 : OkF Try.prog (dcOf Try.prog) 27 Zz.F_impl_ChainOrder := Or.inl ⟨rfl, ⟨⟨Try.f27, _, Try.func27, rfl, by kernel_rfl, by kernel_rfl, by kernel_rfl, by decide +kernel, by kernel_rfl⟩⟩⟩
theorem ok33 : OkF Try.prog (dcOf Try.prog) 33 Zz.F_impl_ChainBest := Or.inl ⟨rfl, ⟨⟨Try.f33, _, Try.func33, rfl, by kernel_rfl, by kernel_rfl, by kernel_rfl, by decide +kernel, by kernel_rfl⟩⟩⟩
theorem ok43 : OkF Try.prog (dcOf Try.prog) 43 Zz.F_laws_alive := Or.inl ⟨rfl, ⟨⟨Try.f43, _, Try.func43, rfl, by kernel_rfl, by kernel_rfl, by kernel_rfl, by decide +kernel, by kernel_rfl⟩⟩⟩
theorem ok46 : OkF Try.prog (dcOf Try.prog) 46 Zz.F_spec_GroupsOk := Or.inl ⟨rfl, ⟨⟨Try.f46, _, Try.func46, rfl, by kernel_rfl, by kernel_rfl, by kernel_rfl, by decide +kernel, by kernel_rfl⟩⟩⟩
theorem ok47 : OkF Try.prog (dcOf Try.prog) 47 Zz.F_laws_sameInts := Or.inl ⟨rfl, ⟨⟨Try.f47, _, Try.func47, rfl, by kernel_rfl, by kernel_rfl, by kernel_rfl, by decide +kernel, by kernel_rfl⟩⟩⟩
theorem ok48 : OkF Try.prog (dcOf Try.prog) 48 Zz.F_spec_DrawChainOrder := Or.inl ⟨rfl, ⟨⟨Try.f48, _, Try.func48, rfl, by kernel_rfl, by kernel_rfl, by kernel_rfl, by decide +kernel, by kernel_rfl⟩⟩⟩
theorem ok49 : OkF Try.prog (dcOf Try.prog) 49 Zz.F_impl_RowAverage := Or.inl ⟨rfl, ⟨⟨Try.f49, _, Try.func49, rfl, by kernel_rfl, by kernel_rfl, by kernel_rfl, by decide +kernel, by kernel_rfl⟩⟩⟩
theorem ok50 : OkF Try.prog (dcOf Try.prog) 50 Zz.F_impl_RatioOrder := Or.inl ⟨rfl, ⟨⟨Try.f50, _, Try.func50, rfl, by kernel_rfl, by kernel_rfl, by kernel_rfl, by decide +kernel, by kernel_rfl⟩⟩⟩
theorem ok53 : OkF Try.prog (dcOf Try.prog) 53 Zz.F_spec_TestsOk := Or.inl ⟨rfl, ⟨⟨Try.f53, _, Try.func53, rfl, by kernel_rfl, by kernel_rfl, by kernel_rfl, by decide +kernel, by kernel_rfl⟩⟩⟩
theorem ok54 : OkF Try.prog (dcOf Try.prog) 54 Zz.F_spec_l1In := Or.inl ⟨rfl, ⟨⟨Try.f54, _, Try.func54, rfl, by kernel_rfl, by kernel_rfl, by kernel_rfl, by decide +kernel, by kernel_rfl⟩⟩⟩
theorem ok55 : OkF Try.prog (dcOf Try.prog) 55 Zz.F_spec_l9Ratio := Or.inl ⟨rfl, ⟨⟨Try.f55, _, Try.func55, rfl, by kernel_rfl, by kernel_rfl, by kernel_rfl, by decide +kernel, by kernel_rfl⟩⟩⟩
theorem ok57 : OkF Try.prog (dcOf Try.prog) 57 Zz.F_impl_TestsOk := Or.inl ⟨rfl, ⟨⟨Try.f57, _, Try.func57, rfl, by kernel_rfl, by kernel_rfl, by kernel_rfl, by decide +kernel, by kernel_rfl⟩⟩⟩
theorem ok58 : OkF Try.prog (dcOf Try.prog) 58 Zz.F_impl_GroupsOk := Or.inl ⟨rfl, ⟨⟨Try.f58, _, Try.func58, rfl, by kernel_rfl, by kernel_rfl, by kernel_rfl, by decide +kernel, by kernel_rfl⟩⟩⟩
theorem ok59 : OkF Try.prog (dcOf Try.prog) 59 Zz.F_impl_isWithin := Or.inl ⟨rfl, ⟨⟨Try.f59, _, Try.func59, rfl, by kernel_rfl, by kernel_rfl, by kernel_rfl, by decide +kernel, by kernel_rfl⟩⟩⟩
theorem ok60 : OkF Try.prog (dcOf Try.prog) 60 Zz.F_impl_ratioOfPart := Or.inl ⟨rfl, ⟨⟨Try.f60, _, Try.func60, rfl, by kernel_rfl, by kernel_rfl, by kernel_rfl, by decide +kernel, by kernel_rfl⟩⟩⟩
theorem ok62 : OkF Try.prog (dcOf Try.prog) 62 Zz.F_impl_OrderOk := Or.inl ⟨rfl, ⟨⟨Try.f62, _, Try.func62, rfl, by kernel_rfl, by kernel_rfl, by kernel_rfl, by decide +kernel, by kernel_rfl⟩⟩⟩
theorem ok63 : OkF Try.prog (dcOf Try.prog) 63 Zz.F_impl_KeepsChains_1 := Or.inl ⟨rfl, ⟨⟨Try.f63, _, Try.func63, rfl, by kernel_rfl, by kernel_rfl, by kernel_rfl, by decide +kernel, by kernel_rfl⟩⟩⟩
theorem ok64 : OkF Try.prog (dcOf Try.prog) 64 Zz.F_slices_Index_int_int := Or.inl ⟨rfl, ⟨⟨Try.f64, _, Try.func64, rfl, by kernel_rfl, by kernel_rfl, by kernel_rfl, by decide +kernel, by kernel_rfl⟩⟩⟩
theorem ok65 : OkF Try.prog (dcOf Try.prog) 65 Zz.F_slices_IsSortedFunc_int_int := Or.inl ⟨rfl, ⟨⟨Try.f65, _, Try.func65, rfl, by kernel_rfl, by kernel_rfl, by kernel_rfl, by decide +kernel, by kernel_rfl⟩⟩⟩
theorem ok66 : OkF Try.prog (dcOf Try.prog) 66 Zz.F_impl_leastPart := Or.inl ⟨rfl, ⟨⟨Try.f66, _, Try.func66, rfl, by kernel_rfl, by kernel_rfl, by kernel_rfl, by decide +kernel, by kernel_rfl⟩⟩⟩
theorem ok67 : OkF Try.prog (dcOf Try.prog) 67 Zz.F_impl_behindPart := Or.inl ⟨rfl, ⟨⟨Try.f67, _, Try.func67, rfl, by kernel_rfl, by kernel_rfl, by kernel_rfl, by decide +kernel, by kernel_rfl⟩⟩⟩
theorem ok69 : OkF Try.prog (dcOf Try.prog) 69 Zz.F_impl_leastAlong := Or.inl ⟨rfl, ⟨⟨Try.f69, _, Try.func69, rfl, by kernel_rfl, by kernel_rfl, by kernel_rfl, by decide +kernel, by kernel_rfl⟩⟩⟩
theorem ok74 : OkF Try.prog (dcOf Try.prog) 74 Zz.F_spec_l20Open := Or.inl ⟨rfl, ⟨⟨Try.f74, _, Try.func74, rfl, by kernel_rfl, by kernel_rfl, by kernel_rfl, by decide +kernel, by kernel_rfl⟩⟩⟩
theorem ok75 : OkF Try.prog (dcOf Try.prog) 75 Zz.F_spec_l20Grouped := Or.inl ⟨rfl, ⟨⟨Try.f75, _, Try.func75, rfl, by kernel_rfl, by kernel_rfl, by kernel_rfl, by decide +kernel, by kernel_rfl⟩⟩⟩
theorem ok76 : OkF Try.prog (dcOf Try.prog) 76 Zz.F_spec_l20Rd_pick := Or.inl ⟨rfl, ⟨⟨Try.f76, _, Try.func76, rfl, by kernel_rfl, by kernel_rfl, by kernel_rfl, by decide +kernel, by kernel_rfl⟩⟩⟩
theorem ok77 : OkF Try.prog (dcOf Try.prog) 77 Zz.F_spec_l20Order := Or.inl ⟨rfl, ⟨⟨Try.f77, _, Try.func77, rfl, by kernel_rfl, by kernel_rfl, by kernel_rfl, by decide +kernel, by kernel_rfl⟩⟩⟩
theorem ok78 : OkF Try.prog (dcOf Try.prog) 78 Zz.F_impl_rowOk := Or.inl ⟨rfl, ⟨⟨Try.f78, _, Try.func78, rfl, by kernel_rfl, by kernel_rfl, by kernel_rfl, by decide +kernel, by kernel_rfl⟩⟩⟩
theorem ok79 : OkF Try.prog (dcOf Try.prog) 79 Zz.F_impl_wholeOf := Or.inl ⟨rfl, ⟨⟨Try.f79, _, Try.func79, rfl, by kernel_rfl, by kernel_rfl, by kernel_rfl, by decide +kernel, by kernel_rfl⟩⟩⟩
theorem ok80 : OkF Try.prog (dcOf Try.prog) 80 Zz.F_impl_endChance := Or.inl ⟨rfl, ⟨⟨Try.f80, _, Try.func80, rfl, by kernel_rfl, by kernel_rfl, by kernel_rfl, by decide +kernel, by kernel_rfl⟩⟩⟩
theorem ok81 : OkF Try.prog (dcOf Try.prog) 81 Zz.F_impl_RatioOrder_1 := Or.inl ⟨rfl, ⟨⟨Try.f81, _, Try.func81, rfl, by kernel_rfl, by kernel_rfl, by kernel_rfl, by decide +kernel, by kernel_rfl⟩⟩⟩
theorem ok82 : OkF Try.prog (dcOf Try.prog) 82 Zz.F_impl_ratioOf := Or.inl ⟨rfl, ⟨⟨Try.f82, _, Try.func82, rfl, by kernel_rfl, by kernel_rfl, by kernel_rfl, by decide +kernel, by kernel_rfl⟩⟩⟩
theorem ok83 : OkF Try.prog (dcOf Try.prog) 83 Zz.F_impl_ratio_isLess := Or.inl ⟨rfl, ⟨⟨Try.f83, _, Try.func83, rfl, by kernel_rfl, by kernel_rfl, by kernel_rfl, by decide +kernel, by kernel_rfl⟩⟩⟩
theorem ok84 : OkF Try.prog (dcOf Try.prog) 84 Zz.F_impl_inserted_int := Or.inl ⟨rfl, ⟨⟨Try.f84, _, Try.func84, rfl, by kernel_rfl, by kernel_rfl, by kernel_rfl, by decide +kernel, by kernel_rfl⟩⟩⟩
theorem ok85 : OkF Try.prog (dcOf Try.prog) 85 Zz.F_spec_l1Power := Or.inl ⟨rfl, ⟨⟨Try.f85, _, Try.func85, rfl, by kernel_rfl, by kernel_rfl, by kernel_rfl, by decide +kernel, by kernel_rfl⟩⟩⟩
theorem ok86 : OkF Try.prog (dcOf Try.prog) 86 Zz.F_impl_manyOk := Or.inl ⟨rfl, ⟨⟨Try.f86, _, Try.func86, rfl, by kernel_rfl, by kernel_rfl, by kernel_rfl, by decide +kernel, by kernel_rfl⟩⟩⟩
theorem ok87 : OkF Try.prog (dcOf Try.prog) 87 Zz.F_impl_hasTest := Or.inl ⟨rfl, ⟨⟨Try.f87, _, Try.func87, rfl, by kernel_rfl, by kernel_rfl, by kernel_rfl, by decide +kernel, by kernel_rfl⟩⟩⟩
theorem ok88 : OkF Try.prog (dcOf Try.prog) 88 Zz.F_slices_Clone_int_int := Or.inl ⟨rfl, ⟨⟨Try.f88, _, Try.func88, rfl, by kernel_rfl, by kernel_rfl, by kernel_rfl, by decide +kernel, by kernel_rfl⟩⟩⟩
theorem ok90 : OkF Try.prog (dcOf Try.prog) 90 Zz.F_impl_averageAsking := Or.inl ⟨rfl, ⟨⟨Try.f90, _, Try.func90, rfl, by kernel_rfl, by kernel_rfl, by kernel_rfl, by decide +kernel, by kernel_rfl⟩⟩⟩
theorem ok94 : OkF Try.prog (dcOf Try.prog) 94 Zz.F_spec_l20Tests := Or.inl ⟨rfl, ⟨⟨Try.f94, _, Try.func94, rfl, by kernel_rfl, by kernel_rfl, by kernel_rfl, by decide +kernel, by kernel_rfl⟩⟩⟩
theorem ok95 : OkF Try.prog (dcOf Try.prog) 95 Zz.F_spec_l20Groups := Or.inl ⟨rfl, ⟨⟨Try.f95, _, Try.func95, rfl, by kernel_rfl, by kernel_rfl, by kernel_rfl, by decide +kernel, by kernel_rfl⟩⟩⟩
theorem ok96 : OkF Try.prog (dcOf Try.prog) 96 Zz.F_spec_l20Rd_odd := Or.inl ⟨rfl, ⟨⟨Try.f96, _, Try.func96, rfl, by kernel_rfl, by kernel_rfl, by kernel_rfl, by decide +kernel, by kernel_rfl⟩⟩⟩
set_option maxRecDepth 100000 in
theorem ok97 : OkF Try.prog (dcOf Try.prog) 97 Zz.F_slices_Insert_int_int := Or.inr ⟨insP, rfl, ins_sound insLays (by kernel_rfl)⟩
theorem ok103 : OkF Try.prog (dcOf Try.prog) 103 Zz.F_slices_rotateRight_int := Or.inl ⟨rfl, ⟨⟨Try.f103, _, Try.func103, rfl, by kernel_rfl, by kernel_rfl, by kernel_rfl, by decide +kernel, by kernel_rfl⟩⟩⟩
theorem ok108 : OkF Try.prog (dcOf Try.prog) 108 Zz.F_slices_rotateLeft_int := Or.inl ⟨rfl, ⟨⟨Try.f108, _, Try.func108, rfl, by kernel_rfl, by kernel_rfl, by kernel_rfl, by decide +kernel, by kernel_rfl⟩⟩⟩
theorem ok111 : OkF Try.prog (dcOf Try.prog) 111 Zz.F_slices_Reverse_int_int := Or.inl ⟨rfl, ⟨⟨Try.f111, _, Try.func111, rfl, by kernel_rfl, by kernel_rfl, by kernel_rfl, by decide +kernel, by kernel_rfl⟩⟩⟩
theorem mixed : Try.prog.follows .mixedOrders = true := by kernel_rfl
theorem okAll : ∀ f F, Zz.lf f = some F → OkF Try.prog (dcOf Try.prog) f F := by
  intro f F h
  unfold Zz.lf at h
  split at h
  · injection h with h; subst h; exact ok11
  · injection h with h; subst h; exact ok24
  · injection h with h; subst h; exact ok26
  · injection h with h; subst h; exact ok27
  · injection h with h; subst h; exact ok33
  · injection h with h; subst h; exact ok43
  · injection h with h; subst h; exact ok46
  · injection h with h; subst h; exact ok47
  · injection h with h; subst h; exact ok48
  · injection h with h; subst h; exact ok49
  · injection h with h; subst h; exact ok50
  · injection h with h; subst h; exact ok53
  · injection h with h; subst h; exact ok54
  · injection h with h; subst h; exact ok55
  · injection h with h; subst h; exact ok57
  · injection h with h; subst h; exact ok58
  · injection h with h; subst h; exact ok59
  · injection h with h; subst h; exact ok60
  · injection h with h; subst h; exact ok62
  · injection h with h; subst h; exact ok63
  · injection h with h; subst h; exact ok64
  · injection h with h; subst h; exact ok65
  · injection h with h; subst h; exact ok66
  · injection h with h; subst h; exact ok67
  · injection h with h; subst h; exact ok69
  · injection h with h; subst h; exact ok74
  · injection h with h; subst h; exact ok75
  · injection h with h; subst h; exact ok76
  · injection h with h; subst h; exact ok77
  · injection h with h; subst h; exact ok78
  · injection h with h; subst h; exact ok79
  · injection h with h; subst h; exact ok80
  · injection h with h; subst h; exact ok81
  · injection h with h; subst h; exact ok82
  · injection h with h; subst h; exact ok83
  · injection h with h; subst h; exact ok84
  · injection h with h; subst h; exact ok85
  · injection h with h; subst h; exact ok86
  · injection h with h; subst h; exact ok87
  · injection h with h; subst h; exact ok88
  · injection h with h; subst h; exact ok90
  · injection h with h; subst h; exact ok94
  · injection h with h; subst h; exact ok95
  · injection h with h; subst h; exact ok96
  · injection h with h; subst h; exact ok97
  · injection h with h; subst h; exact ok103
  · injection h with h; subst h; exact ok108
  · injection h with h; subst h; exact ok111
  · cases h
theorem said {f : Nat} {args : List DV} {r : DV × List DV} (h : call Zz.lf f args = some r) : CallSpec Try.prog f args r := call_sound okAll (draw_ok mixed) h
end Go.Proofs.Ytldepejkagfdmaa.oks
