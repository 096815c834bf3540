/- That the data is what the program says, function by function. No conditions. -/
import Derived.Test.YtkeooaonbgablaaIr
import Derived.Test.YtkeooaonbgablaaLgD
import Derived.Test.YtkeooaonbgablaaRows
set_option linter.unusedSectionVars false
set_option linter.unusedVariables false
set_option linter.unusedSimpArgs false
namespace Go.Proofs.Ytkeooaonbgablaa.oks
open Go.Lg Zz
theorem ok3 : OkF Try.prog (dcOf Try.prog) 3 Zz.F_laws_FnRowTerm := ⟨⟨Try.f3, _, Try.func3, rfl, by kernel_rfl, by kernel_rfl, by kernel_rfl, by decide +kernel, by kernel_rfl⟩⟩
theorem ok4 : OkF Try.prog (dcOf Try.prog) 4 Zz.F_laws_FnSwapGain := ⟨⟨Try.f4, _, Try.func4, rfl, by kernel_rfl, by kernel_rfl, by kernel_rfl, by decide +kernel, by kernel_rfl⟩⟩
theorem ok5 : OkF Try.prog (dcOf Try.prog) 5 Zz.F_laws_FnRatioSwaps := ⟨⟨Try.f5, _, Try.func5, rfl, by kernel_rfl, by kernel_rfl, by kernel_rfl, by decide +kernel, by kernel_rfl⟩⟩
theorem ok6 : OkF Try.prog (dcOf Try.prog) 6 Zz.F_laws_FnExactRowTerm := ⟨⟨Try.f6, _, Try.func6, rfl, by kernel_rfl, by kernel_rfl, by kernel_rfl, by decide +kernel, by kernel_rfl⟩⟩
theorem ok7 : OkF Try.prog (dcOf Try.prog) 7 Zz.F_laws_FnExactRatioOrder := ⟨⟨Try.f7, _, Try.func7, rfl, by kernel_rfl, by kernel_rfl, by kernel_rfl, by decide +kernel, by kernel_rfl⟩⟩
theorem ok8 : OkF Try.prog (dcOf Try.prog) 8 Zz.F_laws_FnExactRowAverage := ⟨⟨Try.f8, _, Try.func8, rfl, by kernel_rfl, by kernel_rfl, by kernel_rfl, by decide +kernel, by kernel_rfl⟩⟩
theorem ok9 : OkF Try.prog (dcOf Try.prog) 9 Zz.F_laws_FnExactSwapGain := ⟨⟨Try.f9, _, Try.func9, rfl, by kernel_rfl, by kernel_rfl, by kernel_rfl, by decide +kernel, by kernel_rfl⟩⟩
theorem ok10 : OkF Try.prog (dcOf Try.prog) 10 Zz.F_spec_DrawRowTerm := ⟨⟨Try.f10, _, Try.func10, rfl, by kernel_rfl, by kernel_rfl, by kernel_rfl, by decide +kernel, by kernel_rfl⟩⟩
theorem ok11 : OkF Try.prog (dcOf Try.prog) 11 Zz.F_impl_RowTerm := ⟨⟨Try.f11, _, Try.func11, rfl, by kernel_rfl, by kernel_rfl, by kernel_rfl, by decide +kernel, by kernel_rfl⟩⟩
theorem ok12 : OkF Try.prog (dcOf Try.prog) 12 Zz.F_laws_sameMarks := ⟨⟨Try.f12, _, Try.func12, rfl, by kernel_rfl, by kernel_rfl, by kernel_rfl, by decide +kernel, by kernel_rfl⟩⟩
theorem ok13 : OkF Try.prog (dcOf Try.prog) 13 Zz.F_spec_RowTerm := ⟨⟨Try.f13, _, Try.func13, rfl, by kernel_rfl, by kernel_rfl, by kernel_rfl, by decide +kernel, by kernel_rfl⟩⟩
theorem ok14 : OkF Try.prog (dcOf Try.prog) 14 Zz.F_laws_alive := ⟨⟨Try.f14, _, Try.func14, rfl, by kernel_rfl, by kernel_rfl, by kernel_rfl, by decide +kernel, by kernel_rfl⟩⟩
theorem ok15 : OkF Try.prog (dcOf Try.prog) 15 Zz.F_impl_TermOk := ⟨⟨Try.f15, _, Try.func15, rfl, by kernel_rfl, by kernel_rfl, by kernel_rfl, by decide +kernel, by kernel_rfl⟩⟩
theorem ok16 : OkF Try.prog (dcOf Try.prog) 16 Zz.F_impl_OnceOk := ⟨⟨Try.f16, _, Try.func16, rfl, by kernel_rfl, by kernel_rfl, by kernel_rfl, by decide +kernel, by kernel_rfl⟩⟩
theorem ok17 : OkF Try.prog (dcOf Try.prog) 17 Zz.F_impl_LettersOf := ⟨⟨Try.f17, _, Try.func17, rfl, by kernel_rfl, by kernel_rfl, by kernel_rfl, by decide +kernel, by kernel_rfl⟩⟩
theorem ok18 : OkF Try.prog (dcOf Try.prog) 18 Zz.F_impl_DualTerm := ⟨⟨Try.f18, _, Try.func18, rfl, by kernel_rfl, by kernel_rfl, by kernel_rfl, by decide +kernel, by kernel_rfl⟩⟩
theorem ok19 : OkF Try.prog (dcOf Try.prog) 19 Zz.F_spec_DrawSwapGain := ⟨⟨Try.f19, _, Try.func19, rfl, by kernel_rfl, by kernel_rfl, by kernel_rfl, by decide +kernel, by kernel_rfl⟩⟩
theorem ok20 : OkF Try.prog (dcOf Try.prog) 20 Zz.F_impl_SwapGain := ⟨⟨Try.f20, _, Try.func20, rfl, by kernel_rfl, by kernel_rfl, by kernel_rfl, by decide +kernel, by kernel_rfl⟩⟩
theorem ok21 : OkF Try.prog (dcOf Try.prog) 21 Zz.F_spec_SwapGain := ⟨⟨Try.f21, _, Try.func21, rfl, by kernel_rfl, by kernel_rfl, by kernel_rfl, by decide +kernel, by kernel_rfl⟩⟩
theorem ok22 : OkF Try.prog (dcOf Try.prog) 22 Zz.F_spec_DrawRatioOrder := ⟨⟨Try.f22, _, Try.func22, rfl, by kernel_rfl, by kernel_rfl, by kernel_rfl, by decide +kernel, by kernel_rfl⟩⟩
theorem ok23 : OkF Try.prog (dcOf Try.prog) 23 Zz.F_impl_RatioOrder := ⟨⟨Try.f23, _, Try.func23, rfl, by kernel_rfl, by kernel_rfl, by kernel_rfl, by decide +kernel, by kernel_rfl⟩⟩
theorem ok24 : OkF Try.prog (dcOf Try.prog) 24 Zz.F_spec_RatioOrder := ⟨⟨Try.f24, _, Try.func24, rfl, by kernel_rfl, by kernel_rfl, by kernel_rfl, by decide +kernel, by kernel_rfl⟩⟩
theorem ok25 : OkF Try.prog (dcOf Try.prog) 25 Zz.F_laws_eqMarkS := ⟨⟨Try.f25, _, Try.func25, rfl, by kernel_rfl, by kernel_rfl, by kernel_rfl, by decide +kernel, by kernel_rfl⟩⟩
theorem ok26 : OkF Try.prog (dcOf Try.prog) 26 Zz.F_laws_markMarkS := ⟨⟨Try.f26, _, Try.func26, rfl, by kernel_rfl, by kernel_rfl, by kernel_rfl, by decide +kernel, by kernel_rfl⟩⟩
theorem ok27 : OkF Try.prog (dcOf Try.prog) 27 Zz.F_laws_heldMarkS := ⟨⟨Try.f27, _, Try.func27, rfl, by kernel_rfl, by kernel_rfl, by kernel_rfl, by decide +kernel, by kernel_rfl⟩⟩
theorem ok28 : OkF Try.prog (dcOf Try.prog) 28 Zz.F_laws_szTestS := ⟨⟨Try.f28, _, Try.func28, rfl, by kernel_rfl, by kernel_rfl, by kernel_rfl, by decide +kernel, by kernel_rfl⟩⟩
theorem ok29 : OkF Try.prog (dcOf Try.prog) 29 Zz.F_laws_toTestS := ⟨⟨Try.f29, _, Try.func29, rfl, by kernel_rfl, by kernel_rfl, by kernel_rfl, by decide +kernel, by kernel_rfl⟩⟩
theorem ok30 : OkF Try.prog (dcOf Try.prog) 30 Zz.F_laws_eqIntS := ⟨⟨Try.f30, _, Try.func30, rfl, by kernel_rfl, by kernel_rfl, by kernel_rfl, by decide +kernel, by kernel_rfl⟩⟩
theorem ok31 : OkF Try.prog (dcOf Try.prog) 31 Zz.F_laws_eqTestS := ⟨⟨Try.f31, _, Try.func31, rfl, by kernel_rfl, by kernel_rfl, by kernel_rfl, by decide +kernel, by kernel_rfl⟩⟩
theorem ok32 : OkF Try.prog (dcOf Try.prog) 32 Zz.F_laws_markTestS := ⟨⟨Try.f32, _, Try.func32, rfl, by kernel_rfl, by kernel_rfl, by kernel_rfl, by decide +kernel, by kernel_rfl⟩⟩
theorem ok33 : OkF Try.prog (dcOf Try.prog) 33 Zz.F_laws_markIntS := ⟨⟨Try.f33, _, Try.func33, rfl, by kernel_rfl, by kernel_rfl, by kernel_rfl, by decide +kernel, by kernel_rfl⟩⟩
theorem ok34 : OkF Try.prog (dcOf Try.prog) 34 Zz.F_laws_heldIntS := ⟨⟨Try.f34, _, Try.func34, rfl, by kernel_rfl, by kernel_rfl, by kernel_rfl, by decide +kernel, by kernel_rfl⟩⟩
theorem ok35 : OkF Try.prog (dcOf Try.prog) 35 Zz.F_spec_RowAverage := ⟨⟨Try.f35, _, Try.func35, rfl, by kernel_rfl, by kernel_rfl, by kernel_rfl, by decide +kernel, by kernel_rfl⟩⟩
theorem ok36 : OkF Try.prog (dcOf Try.prog) 36 Zz.F_laws_toIntS := ⟨⟨Try.f36, _, Try.func36, rfl, by kernel_rfl, by kernel_rfl, by kernel_rfl, by decide +kernel, by kernel_rfl⟩⟩
theorem ok37 : OkF Try.prog (dcOf Try.prog) 37 Zz.F_impl_RowAverage := ⟨⟨Try.f37, _, Try.func37, rfl, by kernel_rfl, by kernel_rfl, by kernel_rfl, by decide +kernel, by kernel_rfl⟩⟩
theorem ok38 : OkF Try.prog (dcOf Try.prog) 38 Zz.F_spec_l20Open := ⟨⟨Try.f38, _, Try.func38, rfl, by kernel_rfl, by kernel_rfl, by kernel_rfl, by decide +kernel, by kernel_rfl⟩⟩
theorem ok39 : OkF Try.prog (dcOf Try.prog) 39 Zz.F_spec_l20Rd_pick := ⟨⟨Try.f39, _, Try.func39, rfl, by kernel_rfl, by kernel_rfl, by kernel_rfl, by decide +kernel, by kernel_rfl⟩⟩
theorem ok40 : OkF Try.prog (dcOf Try.prog) 40 Zz.F_impl_manyOk := ⟨⟨Try.f40, _, Try.func40, rfl, by kernel_rfl, by kernel_rfl, by kernel_rfl, by decide +kernel, by kernel_rfl⟩⟩
theorem ok41 : OkF Try.prog (dcOf Try.prog) 41 Zz.F_impl_rowOk := ⟨⟨Try.f41, _, Try.func41, rfl, by kernel_rfl, by kernel_rfl, by kernel_rfl, by decide +kernel, by kernel_rfl⟩⟩
theorem ok42 : OkF Try.prog (dcOf Try.prog) 42 Zz.F_spec_l1In := ⟨⟨Try.f42, _, Try.func42, rfl, by kernel_rfl, by kernel_rfl, by kernel_rfl, by decide +kernel, by kernel_rfl⟩⟩
theorem ok43 : OkF Try.prog (dcOf Try.prog) 43 Zz.F_impl_TestsOk := ⟨⟨Try.f43, _, Try.func43, rfl, by kernel_rfl, by kernel_rfl, by kernel_rfl, by decide +kernel, by kernel_rfl⟩⟩
theorem ok44 : OkF Try.prog (dcOf Try.prog) 44 Zz.F_impl_isWithin := ⟨⟨Try.f44, _, Try.func44, rfl, by kernel_rfl, by kernel_rfl, by kernel_rfl, by decide +kernel, by kernel_rfl⟩⟩
theorem ok45 : OkF Try.prog (dcOf Try.prog) 45 Zz.F_impl_partsTaken := ⟨⟨Try.f45, _, Try.func45, rfl, by kernel_rfl, by kernel_rfl, by kernel_rfl, by decide +kernel, by kernel_rfl⟩⟩
theorem ok46 : OkF Try.prog (dcOf Try.prog) 46 Zz.F_impl_markOk := ⟨⟨Try.f46, _, Try.func46, rfl, by kernel_rfl, by kernel_rfl, by kernel_rfl, by decide +kernel, by kernel_rfl⟩⟩
theorem ok47 : OkF Try.prog (dcOf Try.prog) 47 Zz.F_spec_l20Tests := ⟨⟨Try.f47, _, Try.func47, rfl, by kernel_rfl, by kernel_rfl, by kernel_rfl, by decide +kernel, by kernel_rfl⟩⟩
theorem ok48 : OkF Try.prog (dcOf Try.prog) 48 Zz.F_spec_l20Order := ⟨⟨Try.f48, _, Try.func48, rfl, by kernel_rfl, by kernel_rfl, by kernel_rfl, by decide +kernel, by kernel_rfl⟩⟩
theorem ok49 : OkF Try.prog (dcOf Try.prog) 49 Zz.F_impl_SwappedOrder := ⟨⟨Try.f49, _, Try.func49, rfl, by kernel_rfl, by kernel_rfl, by kernel_rfl, by decide +kernel, by kernel_rfl⟩⟩
theorem ok50 : OkF Try.prog (dcOf Try.prog) 50 Zz.F_spec_SwappedOrder := ⟨⟨Try.f50, _, Try.func50, rfl, by kernel_rfl, by kernel_rfl, by kernel_rfl, by decide +kernel, by kernel_rfl⟩⟩
theorem ok51 : OkF Try.prog (dcOf Try.prog) 51 Zz.F_impl_RatioOrder_1 := ⟨⟨Try.f51, _, Try.func51, rfl, by kernel_rfl, by kernel_rfl, by kernel_rfl, by decide +kernel, by kernel_rfl⟩⟩
theorem ok52 : OkF Try.prog (dcOf Try.prog) 52 Zz.F_impl_ratioOf := ⟨⟨Try.f52, _, Try.func52, rfl, by kernel_rfl, by kernel_rfl, by kernel_rfl, by decide +kernel, by kernel_rfl⟩⟩
theorem ok53 : OkF Try.prog (dcOf Try.prog) 53 Zz.F_impl_ratio_isLess := ⟨⟨Try.f53, _, Try.func53, rfl, by kernel_rfl, by kernel_rfl, by kernel_rfl, by decide +kernel, by kernel_rfl⟩⟩
theorem ok54 : OkF Try.prog (dcOf Try.prog) 54 Zz.F_impl_inserted_int := ⟨⟨Try.f54, _, Try.func54, rfl, by kernel_rfl, by kernel_rfl, by kernel_rfl, by decide +kernel, by kernel_rfl⟩⟩
theorem ok55 : OkF Try.prog (dcOf Try.prog) 55 Zz.F_spec_TestsOk := ⟨⟨Try.f55, _, Try.func55, rfl, by kernel_rfl, by kernel_rfl, by kernel_rfl, by decide +kernel, by kernel_rfl⟩⟩
theorem ok56 : OkF Try.prog (dcOf Try.prog) 56 Zz.F_spec_l5Ends := ⟨⟨Try.f56, _, Try.func56, rfl, by kernel_rfl, by kernel_rfl, by kernel_rfl, by decide +kernel, by kernel_rfl⟩⟩
theorem ok57 : OkF Try.prog (dcOf Try.prog) 57 Zz.F_laws_eqMark := ⟨⟨Try.f57, _, Try.func57, rfl, by kernel_rfl, by kernel_rfl, by kernel_rfl, by decide +kernel, by kernel_rfl⟩⟩
theorem ok58 : OkF Try.prog (dcOf Try.prog) 58 Zz.F_laws_toTest := ⟨⟨Try.f58, _, Try.func58, rfl, by kernel_rfl, by kernel_rfl, by kernel_rfl, by decide +kernel, by kernel_rfl⟩⟩
theorem ok59 : OkF Try.prog (dcOf Try.prog) 59 Zz.F_laws_eqTest := ⟨⟨Try.f59, _, Try.func59, rfl, by kernel_rfl, by kernel_rfl, by kernel_rfl, by decide +kernel, by kernel_rfl⟩⟩
theorem ok60 : OkF Try.prog (dcOf Try.prog) 60 Zz.F_spec_OrderOk := ⟨⟨Try.f60, _, Try.func60, rfl, by kernel_rfl, by kernel_rfl, by kernel_rfl, by decide +kernel, by kernel_rfl⟩⟩
theorem ok61 : OkF Try.prog (dcOf Try.prog) 61 Zz.F_spec_l1Power := ⟨⟨Try.f61, _, Try.func61, rfl, by kernel_rfl, by kernel_rfl, by kernel_rfl, by decide +kernel, by kernel_rfl⟩⟩
theorem ok62 : OkF Try.prog (dcOf Try.prog) 62 Zz.F_impl_OrderOk := ⟨⟨Try.f62, _, Try.func62, rfl, by kernel_rfl, by kernel_rfl, by kernel_rfl, by decide +kernel, by kernel_rfl⟩⟩
theorem ok63 : OkF Try.prog (dcOf Try.prog) 63 Zz.F_impl_wholeOf := ⟨⟨Try.f63, _, Try.func63, rfl, by kernel_rfl, by kernel_rfl, by kernel_rfl, by decide +kernel, by kernel_rfl⟩⟩
theorem ok64 : OkF Try.prog (dcOf Try.prog) 64 Zz.F_impl_endChance := ⟨⟨Try.f64, _, Try.func64, rfl, by kernel_rfl, by kernel_rfl, by kernel_rfl, by decide +kernel, by kernel_rfl⟩⟩
theorem ok65 : OkF Try.prog (dcOf Try.prog) 65 Zz.F_spec_l20Rd_odd := ⟨⟨Try.f65, _, Try.func65, rfl, by kernel_rfl, by kernel_rfl, by kernel_rfl, by decide +kernel, by kernel_rfl⟩⟩
theorem ok66 : OkF Try.prog (dcOf Try.prog) 66 Zz.F_slices_Clone_int_int := ⟨⟨Try.f66, _, Try.func66, rfl, by kernel_rfl, by kernel_rfl, by kernel_rfl, by decide +kernel, by kernel_rfl⟩⟩
theorem ok68 : OkF Try.prog (dcOf Try.prog) 68 Zz.F_impl_hasTest := ⟨⟨Try.f68, _, Try.func68, rfl, by kernel_rfl, by kernel_rfl, by kernel_rfl, by decide +kernel, by kernel_rfl⟩⟩
theorem ok70 : OkF Try.prog (dcOf Try.prog) 70 Zz.F_slices_rotateRight_int := ⟨⟨Try.f70, _, Try.func70, rfl, by kernel_rfl, by kernel_rfl, by kernel_rfl, by decide +kernel, by kernel_rfl⟩⟩
theorem ok71 : OkF Try.prog (dcOf Try.prog) 71 Zz.F_slices_rotateLeft_int := ⟨⟨Try.f71, _, Try.func71, rfl, by kernel_rfl, by kernel_rfl, by kernel_rfl, by decide +kernel, by kernel_rfl⟩⟩
theorem ok72 : OkF Try.prog (dcOf Try.prog) 72 Zz.F_slices_Reverse_int_int := ⟨⟨Try.f72, _, Try.func72, rfl, by kernel_rfl, by kernel_rfl, by kernel_rfl, by decide +kernel, by kernel_rfl⟩⟩
theorem mixed : Try.prog.follows .mixedOrders = true := by kernel_rfl
theorem okAll : ∀ f F, Zz.lf f = some F → OkF Try.prog (dcOf Try.prog) f F := by
  intro f F h
  unfold Zz.lf at h
  split at h
  · injection h with h; subst h; exact ok3
  · injection h with h; subst h; exact ok4
  · injection h with h; subst h; exact ok5
  · injection h with h; subst h; exact ok6
  · injection h with h; subst h; exact ok7
  · injection h with h; subst h; exact ok8
  · injection h with h; subst h; exact ok9
  · injection h with h; subst h; exact ok10
  · injection h with h; subst h; exact ok11
  · injection h with h; subst h; exact ok12
  · injection h with h; subst h; exact ok13
  · injection h with h; subst h; exact ok14
  · injection h with h; subst h; exact ok15
  · injection h with h; subst h; exact ok16
  · injection h with h; subst h; exact ok17
  · injection h with h; subst h; exact ok18
  · injection h with h; subst h; exact ok19
  · injection h with h; subst h; exact ok20
  · injection h with h; subst h; exact ok21
  · injection h with h; subst h; exact ok22
  · injection h with h; subst h; exact ok23
  · injection h with h; subst h; exact ok24
  · injection h with h; subst h; exact ok25
  · injection h with h; subst h; exact ok26
  · injection h with h; subst h; exact ok27
  · injection h with h; subst h; exact ok28
  · injection h with h; subst h; exact ok29
  · injection h with h; subst h; exact ok30
  · injection h with h; subst h; exact ok31
  · injection h with h; subst h; exact ok32
  · injection h with h; subst h; exact ok33
  · injection h with h; subst h; exact ok34
  · injection h with h; subst h; exact ok35
  · injection h with h; subst h; exact ok36
  · injection h with h; subst h; exact ok37
  · injection h with h; subst h; exact ok38
  · injection h with h; subst h; exact ok39
  · injection h with h; subst h; exact ok40
  · injection h with h; subst h; exact ok41
  · injection h with h; subst h; exact ok42
  · injection h with h; subst h; exact ok43
  · injection h with h; subst h; exact ok44
  · injection h with h; subst h; exact ok45
  · injection h with h; subst h; exact ok46
  · injection h with h; subst h; exact ok47
  · injection h with h; subst h; exact ok48
  · injection h with h; subst h; exact ok49
  · injection h with h; subst h; exact ok50
  · injection h with h; subst h; exact ok51
  · injection h with h; subst h; exact ok52
  · injection h with h; subst h; exact ok53
  · injection h with h; subst h; exact ok54
  · injection h with h; subst h; exact ok55
  · injection h with h; subst h; exact ok56
  · injection h with h; subst h; exact ok57
  · injection h with h; subst h; exact ok58
  · injection h with h; subst h; exact ok59
  · injection h with h; subst h; exact ok60
  · injection h with h; subst h; exact ok61
  · injection h with h; subst h; exact ok62
  · injection h with h; subst h; exact ok63
  · injection h with h; subst h; exact ok64
  · injection h with h; subst h; exact ok65
  · injection h with h; subst h; exact ok66
  · injection h with h; subst h; exact ok68
  · injection h with h; subst h; exact ok70
  · injection h with h; subst h; exact ok71
  · injection h with h; subst h; exact ok72
  · cases h
theorem said {f : Nat} {args : List DV} {r : DV × List DV} (h : call Zz.lf f args = some r) : CallSpec Try.prog f args r := call_sound okAll (draw_ok mixed) h
end Go.Proofs.Ytkeooaonbgablaa.oks
