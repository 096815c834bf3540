/- That the data is what the program says, function by function. No conditions. -/
import Derived.Test.YtaolcmhkmkgmpabIr
import Derived.Test.YtaolcmhkmkgmpabLgD
import Derived.Test.YtaolcmhkmkgmpabRows
set_option linter.unusedSectionVars false
set_option linter.unusedVariables false
set_option linter.unusedSimpArgs false
namespace Go.Proofs.Ytaolcmhkmkgmpab.oks
open Go.Lg Zz
theorem ok3 : OkF Try.prog (dcOf Try.prog) 3 Zz.F_laws_FnTermText := ⟨⟨Try.f3, _, Try.func3, rfl, by kernel_rfl, by kernel_rfl, by kernel_rfl, by decide +kernel, by kernel_rfl⟩⟩
theorem ok4 : OkF Try.prog (dcOf Try.prog) 4 Zz.F_laws_FnReadTerm := ⟨⟨Try.f4, _, Try.func4, rfl, by kernel_rfl, by kernel_rfl, by kernel_rfl, by decide +kernel, by kernel_rfl⟩⟩
theorem ok5 : OkF Try.prog (dcOf Try.prog) 5 Zz.F_laws_FnExactTermText := ⟨⟨Try.f5, _, Try.func5, rfl, by kernel_rfl, by kernel_rfl, by kernel_rfl, by decide +kernel, by kernel_rfl⟩⟩
theorem ok6 : OkF Try.prog (dcOf Try.prog) 6 Zz.F_laws_FnExactReadTerm := ⟨⟨Try.f6, _, Try.func6, rfl, by kernel_rfl, by kernel_rfl, by kernel_rfl, by decide +kernel, by kernel_rfl⟩⟩
theorem ok7 : OkF Try.prog (dcOf Try.prog) 7 Zz.F_spec_DrawTermText := ⟨⟨Try.f7, _, Try.func7, rfl, by kernel_rfl, by kernel_rfl, by kernel_rfl, by decide +kernel, by kernel_rfl⟩⟩
theorem ok8 : OkF Try.prog (dcOf Try.prog) 8 Zz.F_impl_TermText := ⟨⟨Try.f8, _, Try.func8, rfl, by kernel_rfl, by kernel_rfl, by kernel_rfl, by decide +kernel, by kernel_rfl⟩⟩
theorem ok9 : OkF Try.prog (dcOf Try.prog) 9 Zz.F_spec_TermText := ⟨⟨Try.f9, _, Try.func9, rfl, by kernel_rfl, by kernel_rfl, by kernel_rfl, by decide +kernel, by kernel_rfl⟩⟩
theorem ok10 : OkF Try.prog (dcOf Try.prog) 10 Zz.F_impl_TermOk := ⟨⟨Try.f10, _, Try.func10, rfl, by kernel_rfl, by kernel_rfl, by kernel_rfl, by decide +kernel, by kernel_rfl⟩⟩
theorem ok11 : OkF Try.prog (dcOf Try.prog) 11 Zz.F_laws_alive := ⟨⟨Try.f11, _, Try.func11, rfl, by kernel_rfl, by kernel_rfl, by kernel_rfl, by decide +kernel, by kernel_rfl⟩⟩
theorem ok12 : OkF Try.prog (dcOf Try.prog) 12 Zz.F_impl_ReadTerm := ⟨⟨Try.f12, _, Try.func12, rfl, by kernel_rfl, by kernel_rfl, by kernel_rfl, by decide +kernel, by kernel_rfl⟩⟩
theorem ok13 : OkF Try.prog (dcOf Try.prog) 13 Zz.F_laws_sameMarks := ⟨⟨Try.f13, _, Try.func13, rfl, by kernel_rfl, by kernel_rfl, by kernel_rfl, by decide +kernel, by kernel_rfl⟩⟩
theorem ok14 : OkF Try.prog (dcOf Try.prog) 14 Zz.F_spec_DrawReadTerm := ⟨⟨Try.f14, _, Try.func14, rfl, by kernel_rfl, by kernel_rfl, by kernel_rfl, by decide +kernel, by kernel_rfl⟩⟩
theorem ok15 : OkF Try.prog (dcOf Try.prog) 15 Zz.F_spec_ReadTerm := ⟨⟨Try.f15, _, Try.func15, rfl, by kernel_rfl, by kernel_rfl, by kernel_rfl, by decide +kernel, by kernel_rfl⟩⟩
theorem ok16 : OkF Try.prog (dcOf Try.prog) 16 Zz.F_laws_szMarkS := ⟨⟨Try.f16, _, Try.func16, rfl, by kernel_rfl, by kernel_rfl, by kernel_rfl, by decide +kernel, by kernel_rfl⟩⟩
theorem ok17 : OkF Try.prog (dcOf Try.prog) 17 Zz.F_laws_toMarkS := ⟨⟨Try.f17, _, Try.func17, rfl, by kernel_rfl, by kernel_rfl, by kernel_rfl, by decide +kernel, by kernel_rfl⟩⟩
theorem ok18 : OkF Try.prog (dcOf Try.prog) 18 Zz.F_laws_eqMarkS := ⟨⟨Try.f18, _, Try.func18, rfl, by kernel_rfl, by kernel_rfl, by kernel_rfl, by decide +kernel, by kernel_rfl⟩⟩
theorem ok19 : OkF Try.prog (dcOf Try.prog) 19 Zz.F_laws_markMarkS := ⟨⟨Try.f19, _, Try.func19, rfl, by kernel_rfl, by kernel_rfl, by kernel_rfl, by decide +kernel, by kernel_rfl⟩⟩
theorem ok20 : OkF Try.prog (dcOf Try.prog) 20 Zz.F_laws_heldMarkS := ⟨⟨Try.f20, _, Try.func20, rfl, by kernel_rfl, by kernel_rfl, by kernel_rfl, by decide +kernel, by kernel_rfl⟩⟩
theorem ok21 : OkF Try.prog (dcOf Try.prog) 21 Zz.F_spec_l20Asked := ⟨⟨Try.f21, _, Try.func21, rfl, by kernel_rfl, by kernel_rfl, by kernel_rfl, by decide +kernel, by kernel_rfl⟩⟩
theorem ok22 : OkF Try.prog (dcOf Try.prog) 22 Zz.F_spec_l20Open := ⟨⟨Try.f22, _, Try.func22, rfl, by kernel_rfl, by kernel_rfl, by kernel_rfl, by decide +kernel, by kernel_rfl⟩⟩
theorem ok23 : OkF Try.prog (dcOf Try.prog) 23 Zz.F_impl_foldTerm_impl_writtenPart := ⟨⟨Try.f23, _, Try.func23, rfl, by kernel_rfl, by kernel_rfl, by kernel_rfl, by decide +kernel, by kernel_rfl⟩⟩
theorem ok24 : OkF Try.prog (dcOf Try.prog) 24 Zz.F_impl_writePart := ⟨⟨Try.f24, _, Try.func24, rfl, by kernel_rfl, by kernel_rfl, by kernel_rfl, by decide +kernel, by kernel_rfl⟩⟩
theorem ok25 : OkF Try.prog (dcOf Try.prog) 25 Zz.F_spec_TermOk := ⟨⟨Try.f25, _, Try.func25, rfl, by kernel_rfl, by kernel_rfl, by kernel_rfl, by decide +kernel, by kernel_rfl⟩⟩
theorem ok26 : OkF Try.prog (dcOf Try.prog) 26 Zz.F_spec_l2Text := ⟨⟨Try.f26, _, Try.func26, rfl, by kernel_rfl, by kernel_rfl, by kernel_rfl, by decide +kernel, by kernel_rfl⟩⟩
theorem ok27 : OkF Try.prog (dcOf Try.prog) 27 Zz.F_impl_manyOk := ⟨⟨Try.f27, _, Try.func27, rfl, by kernel_rfl, by kernel_rfl, by kernel_rfl, by decide +kernel, by kernel_rfl⟩⟩
theorem ok28 : OkF Try.prog (dcOf Try.prog) 28 Zz.F_impl_isWithin := ⟨⟨Try.f28, _, Try.func28, rfl, by kernel_rfl, by kernel_rfl, by kernel_rfl, by decide +kernel, by kernel_rfl⟩⟩
theorem ok29 : OkF Try.prog (dcOf Try.prog) 29 Zz.F_impl_partsTaken := ⟨⟨Try.f29, _, Try.func29, rfl, by kernel_rfl, by kernel_rfl, by kernel_rfl, by decide +kernel, by kernel_rfl⟩⟩
theorem ok30 : OkF Try.prog (dcOf Try.prog) 30 Zz.F_impl_markOk := ⟨⟨Try.f30, _, Try.func30, rfl, by kernel_rfl, by kernel_rfl, by kernel_rfl, by decide +kernel, by kernel_rfl⟩⟩
theorem ok31 : OkF Try.prog (dcOf Try.prog) 31 Zz.F_impl_TestsOk := ⟨⟨Try.f31, _, Try.func31, rfl, by kernel_rfl, by kernel_rfl, by kernel_rfl, by decide +kernel, by kernel_rfl⟩⟩
theorem ok32 : OkF Try.prog (dcOf Try.prog) 32 Zz.F_impl_readOr := ⟨⟨Try.f32, _, Try.func32, rfl, by kernel_rfl, by kernel_rfl, by kernel_rfl, by decide +kernel, by kernel_rfl⟩⟩
theorem ok33 : OkF Try.prog (dcOf Try.prog) 33 Zz.F_spec_l20Rd_pick := ⟨⟨Try.f33, _, Try.func33, rfl, by kernel_rfl, by kernel_rfl, by kernel_rfl, by decide +kernel, by kernel_rfl⟩⟩
theorem ok34 : OkF Try.prog (dcOf Try.prog) 34 Zz.F_spec_l20Term := ⟨⟨Try.f34, _, Try.func34, rfl, by kernel_rfl, by kernel_rfl, by kernel_rfl, by decide +kernel, by kernel_rfl⟩⟩
theorem ok35 : OkF Try.prog (dcOf Try.prog) 35 Zz.F_spec_l2Or := ⟨⟨Try.f35, _, Try.func35, rfl, by kernel_rfl, by kernel_rfl, by kernel_rfl, by decide +kernel, by kernel_rfl⟩⟩
theorem ok36 : OkF Try.prog (dcOf Try.prog) 36 Zz.F_laws_toMark := ⟨⟨Try.f36, _, Try.func36, rfl, by kernel_rfl, by kernel_rfl, by kernel_rfl, by decide +kernel, by kernel_rfl⟩⟩
theorem ok37 : OkF Try.prog (dcOf Try.prog) 37 Zz.F_laws_eqMark := ⟨⟨Try.f37, _, Try.func37, rfl, by kernel_rfl, by kernel_rfl, by kernel_rfl, by decide +kernel, by kernel_rfl⟩⟩
theorem ok38 : OkF Try.prog (dcOf Try.prog) 38 Zz.F_impl_bracketedFrom := ⟨⟨Try.f38, _, Try.func38, rfl, by kernel_rfl, by kernel_rfl, by kernel_rfl, by decide +kernel, by kernel_rfl⟩⟩
theorem ok39 : OkF Try.prog (dcOf Try.prog) 39 Zz.F_spec_l1In := ⟨⟨Try.f39, _, Try.func39, rfl, by kernel_rfl, by kernel_rfl, by kernel_rfl, by decide +kernel, by kernel_rfl⟩⟩
theorem ok40 : OkF Try.prog (dcOf Try.prog) 40 Zz.F_spec_l2Held := ⟨⟨Try.f40, _, Try.func40, rfl, by kernel_rfl, by kernel_rfl, by kernel_rfl, by decide +kernel, by kernel_rfl⟩⟩
theorem ok41 : OkF Try.prog (dcOf Try.prog) 41 Zz.F_spec_l2Starts := ⟨⟨Try.f41, _, Try.func41, rfl, by kernel_rfl, by kernel_rfl, by kernel_rfl, by decide +kernel, by kernel_rfl⟩⟩
theorem ok42 : OkF Try.prog (dcOf Try.prog) 42 Zz.F_impl_readRow := ⟨⟨Try.f42, _, Try.func42, rfl, by kernel_rfl, by kernel_rfl, by kernel_rfl, by decide +kernel, by kernel_rfl⟩⟩
theorem ok43 : OkF Try.prog (dcOf Try.prog) 43 Zz.F_impl_readAnd := ⟨⟨Try.f43, _, Try.func43, rfl, by kernel_rfl, by kernel_rfl, by kernel_rfl, by decide +kernel, by kernel_rfl⟩⟩
theorem ok44 : OkF Try.prog (dcOf Try.prog) 44 Zz.F_spec_l20Rd_odd := ⟨⟨Try.f44, _, Try.func44, rfl, by kernel_rfl, by kernel_rfl, by kernel_rfl, by decide +kernel, by kernel_rfl⟩⟩
theorem ok45 : OkF Try.prog (dcOf Try.prog) 45 Zz.F_spec_l2And := ⟨⟨Try.f45, _, Try.func45, rfl, by kernel_rfl, by kernel_rfl, by kernel_rfl, by decide +kernel, by kernel_rfl⟩⟩
theorem ok46 : OkF Try.prog (dcOf Try.prog) 46 Zz.F_impl_readNot := ⟨⟨Try.f46, _, Try.func46, rfl, by kernel_rfl, by kernel_rfl, by kernel_rfl, by decide +kernel, by kernel_rfl⟩⟩
theorem ok47 : OkF Try.prog (dcOf Try.prog) 47 Zz.F_spec_l2Atom := ⟨⟨Try.f47, _, Try.func47, rfl, by kernel_rfl, by kernel_rfl, by kernel_rfl, by decide +kernel, by kernel_rfl⟩⟩
theorem ok48 : OkF Try.prog (dcOf Try.prog) 48 Zz.F_impl_readLetter := ⟨⟨Try.f48, _, Try.func48, rfl, by kernel_rfl, by kernel_rfl, by kernel_rfl, by decide +kernel, by kernel_rfl⟩⟩
theorem mixed : Try.prog.follows .mixedOrders = true := by kernel_rfl
theorem okAll : ∀ f F, Zz.lf f = some F → OkF Try.prog (dcOf Try.prog) f F := by
  intro f F h
  unfold Zz.lf at h
  split at h
  · injection h with h; subst h; exact ok3
  · injection h with h; subst h; exact ok4
  · injection h with h; subst h; exact ok5
  · injection h with h; subst h; exact ok6
  · injection h with h; subst h; exact ok7
  · injection h with h; subst h; exact ok8
  · injection h with h; subst h; exact ok9
  · injection h with h; subst h; exact ok10
  · injection h with h; subst h; exact ok11
  · injection h with h; subst h; exact ok12
  · injection h with h; subst h; exact ok13
  · injection h with h; subst h; exact ok14
  · injection h with h; subst h; exact ok15
  · injection h with h; subst h; exact ok16
  · injection h with h; subst h; exact ok17
  · injection h with h; subst h; exact ok18
  · injection h with h; subst h; exact ok19
  · injection h with h; subst h; exact ok20
  · injection h with h; subst h; exact ok21
  · injection h with h; subst h; exact ok22
  · injection h with h; subst h; exact ok23
  · injection h with h; subst h; exact ok24
  · injection h with h; subst h; exact ok25
  · injection h with h; subst h; exact ok26
  · injection h with h; subst h; exact ok27
  · injection h with h; subst h; exact ok28
  · injection h with h; subst h; exact ok29
  · injection h with h; subst h; exact ok30
  · injection h with h; subst h; exact ok31
  · injection h with h; subst h; exact ok32
  · injection h with h; subst h; exact ok33
  · injection h with h; subst h; exact ok34
  · injection h with h; subst h; exact ok35
  · injection h with h; subst h; exact ok36
  · injection h with h; subst h; exact ok37
  · injection h with h; subst h; exact ok38
  · injection h with h; subst h; exact ok39
  · injection h with h; subst h; exact ok40
  · injection h with h; subst h; exact ok41
  · injection h with h; subst h; exact ok42
  · injection h with h; subst h; exact ok43
  · injection h with h; subst h; exact ok44
  · injection h with h; subst h; exact ok45
  · injection h with h; subst h; exact ok46
  · injection h with h; subst h; exact ok47
  · injection h with h; subst h; exact ok48
  · cases h
theorem said {f : Nat} {args : List DV} {r : DV × List DV} (h : call Zz.lf f args = some r) : CallSpec Try.prog f args r := call_sound okAll (draw_ok mixed) h
end Go.Proofs.Ytaolcmhkmkgmpab.oks
