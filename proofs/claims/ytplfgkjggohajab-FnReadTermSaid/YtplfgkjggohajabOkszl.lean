/- That the data is what the program says, function by function. No conditions. -/
import Derived.Test.YtplfgkjggohajabIrzl
import Derived.Test.YtplfgkjggohajabLgD
import Derived.Test.YtplfgkjggohajabLgEzl
import Derived.Test.YtplfgkjggohajabRows
set_option linter.unusedSectionVars false
set_option linter.unusedVariables false
set_option linter.unusedSimpArgs false
namespace Go.Proofs.Ytplfgkjggohajab.oks
open Go.Lg Zz
theorem ok3 : OkF Try.prog (dcOf Try.prog) 3 Zz.F_laws_FnTermText := Or.inl ⟨rfl,⟨⟨Try.f3,_,Try.func3,rfl,by kernel_rfl,by kernel_rfl,by kernel_rfl,by decide +kernel,by kernel_rfl⟩⟩⟩
theorem ok4 : OkF Try.prog (dcOf Try.prog) 4 Zz.F_laws_FnReadTerm := Or.inl ⟨rfl,⟨⟨Try.f4,_,Try.func4,rfl,by kernel_rfl,by kernel_rfl,by kernel_rfl,by decide +kernel,by kernel_rfl⟩⟩⟩
theorem ok5 : OkF Try.prog (dcOf Try.prog) 5 Zz.F_spec_DrawTermText := Or.inl ⟨rfl,⟨⟨Try.f5,_,Try.func5,rfl,by kernel_rfl,by kernel_rfl,by kernel_rfl,by decide +kernel,by kernel_rfl⟩⟩⟩
theorem ok6 : OkF Try.prog (dcOf Try.prog) 6 Zz.F_impl_TermText := Or.inl ⟨rfl,⟨⟨Try.f6,_,Try.func6,rfl,by kernel_rfl,by kernel_rfl,by kernel_rfl,by decide +kernel,by kernel_rfl⟩⟩⟩
theorem ok7 : OkF Try.prog (dcOf Try.prog) 7 Zz.F_spec_TermText := Or.inl ⟨rfl,⟨⟨Try.f7,_,Try.func7,rfl,by kernel_rfl,by kernel_rfl,by kernel_rfl,by decide +kernel,by kernel_rfl⟩⟩⟩
theorem ok8 : OkF Try.prog (dcOf Try.prog) 8 Zz.F_impl_TermOk := Or.inl ⟨rfl,⟨⟨Try.f8,_,Try.func8,rfl,by kernel_rfl,by kernel_rfl,by kernel_rfl,by decide +kernel,by kernel_rfl⟩⟩⟩
theorem ok9 : OkF Try.prog (dcOf Try.prog) 9 Zz.F_laws_alive := Or.inl ⟨rfl,⟨⟨Try.f9,_,Try.func9,rfl,by kernel_rfl,by kernel_rfl,by kernel_rfl,by decide +kernel,by kernel_rfl⟩⟩⟩
theorem ok10 : OkF Try.prog (dcOf Try.prog) 10 Zz.F_impl_ReadTerm := Or.inl ⟨rfl,⟨⟨Try.f10,_,Try.func10,rfl,by kernel_rfl,by kernel_rfl,by kernel_rfl,by decide +kernel,by kernel_rfl⟩⟩⟩
theorem ok11 : OkF Try.prog (dcOf Try.prog) 11 Zz.F_laws_sameMarks := Or.inl ⟨rfl,⟨⟨Try.f11,_,Try.func11,rfl,by kernel_rfl,by kernel_rfl,by kernel_rfl,by decide +kernel,by kernel_rfl⟩⟩⟩
theorem ok12 : OkF Try.prog (dcOf Try.prog) 12 Zz.F_spec_DrawReadTerm := Or.inl ⟨rfl,⟨⟨Try.f12,_,Try.func12,rfl,by kernel_rfl,by kernel_rfl,by kernel_rfl,by decide +kernel,by kernel_rfl⟩⟩⟩
theorem ok13 : OkF Try.prog (dcOf Try.prog) 13 Zz.F_spec_ReadTerm := Or.inl ⟨rfl,⟨⟨Try.f13,_,Try.func13,rfl,by kernel_rfl,by kernel_rfl,by kernel_rfl,by decide +kernel,by kernel_rfl⟩⟩⟩
theorem ok14 : OkF Try.prog (dcOf Try.prog) 14 Zz.F_spec_l20Asked := Or.inl ⟨rfl,⟨⟨Try.f14,_,Try.func14,rfl,by kernel_rfl,by kernel_rfl,by kernel_rfl,by decide +kernel,by kernel_rfl⟩⟩⟩
theorem ok15 : OkF Try.prog (dcOf Try.prog) 15 Zz.F_spec_l20Open := Or.inl ⟨rfl,⟨⟨Try.f15,_,Try.func15,rfl,by kernel_rfl,by kernel_rfl,by kernel_rfl,by decide +kernel,by kernel_rfl⟩⟩⟩
theorem ok16 : OkF Try.prog (dcOf Try.prog) 16 Zz.F_impl_foldTerm_impl_writtenPart := Or.inl ⟨rfl,⟨⟨Try.f16,_,Try.func16,rfl,by kernel_rfl,by kernel_rfl,by kernel_rfl,by decide +kernel,by kernel_rfl⟩⟩⟩
theorem ok17 : OkF Try.prog (dcOf Try.prog) 17 Zz.F_impl_writePart := Or.inl ⟨rfl,⟨⟨Try.f17,_,Try.func17,rfl,by kernel_rfl,by kernel_rfl,by kernel_rfl,by decide +kernel,by kernel_rfl⟩⟩⟩
theorem ok18 : OkF Try.prog (dcOf Try.prog) 18 Zz.F_spec_TermOk := Or.inl ⟨rfl,⟨⟨Try.f18,_,Try.func18,rfl,by kernel_rfl,by kernel_rfl,by kernel_rfl,by decide +kernel,by kernel_rfl⟩⟩⟩
theorem ok19 : OkF Try.prog (dcOf Try.prog) 19 Zz.F_spec_l2Text := Or.inl ⟨rfl,⟨⟨Try.f19,_,Try.func19,rfl,by kernel_rfl,by kernel_rfl,by kernel_rfl,by decide +kernel,by kernel_rfl⟩⟩⟩
theorem ok20 : OkF Try.prog (dcOf Try.prog) 20 Zz.F_impl_manyOk := Or.inl ⟨rfl,⟨⟨Try.f20,_,Try.func20,rfl,by kernel_rfl,by kernel_rfl,by kernel_rfl,by decide +kernel,by kernel_rfl⟩⟩⟩
theorem ok21 : OkF Try.prog (dcOf Try.prog) 21 Zz.F_impl_isWithin := Or.inl ⟨rfl,⟨⟨Try.f21,_,Try.func21,rfl,by kernel_rfl,by kernel_rfl,by kernel_rfl,by decide +kernel,by kernel_rfl⟩⟩⟩
theorem ok22 : OkF Try.prog (dcOf Try.prog) 22 Zz.F_impl_partsTaken := Or.inl ⟨rfl,⟨⟨Try.f22,_,Try.func22,rfl,by kernel_rfl,by kernel_rfl,by kernel_rfl,by decide +kernel,by kernel_rfl⟩⟩⟩
theorem ok23 : OkF Try.prog (dcOf Try.prog) 23 Zz.F_impl_markOk := Or.inl ⟨rfl,⟨⟨Try.f23,_,Try.func23,rfl,by kernel_rfl,by kernel_rfl,by kernel_rfl,by decide +kernel,by kernel_rfl⟩⟩⟩
theorem ok24 : OkF Try.prog (dcOf Try.prog) 24 Zz.F_impl_TestsOk := Or.inl ⟨rfl,⟨⟨Try.f24,_,Try.func24,rfl,by kernel_rfl,by kernel_rfl,by kernel_rfl,by decide +kernel,by kernel_rfl⟩⟩⟩
theorem ok25 : OkF Try.prog (dcOf Try.prog) 25 Zz.F_impl_readOr := Or.inl ⟨rfl,⟨⟨Try.f25,_,Try.func25,rfl,by kernel_rfl,by kernel_rfl,by kernel_rfl,by decide +kernel,by kernel_rfl⟩⟩⟩
theorem ok26 : OkF Try.prog (dcOf Try.prog) 26 Zz.F_spec_l20Rd_pick := Or.inl ⟨rfl,⟨⟨Try.f26,_,Try.func26,rfl,by kernel_rfl,by kernel_rfl,by kernel_rfl,by decide +kernel,by kernel_rfl⟩⟩⟩
theorem ok27 : OkF Try.prog (dcOf Try.prog) 27 Zz.F_spec_l20Term := Or.inl ⟨rfl,⟨⟨Try.f27,_,Try.func27,rfl,by kernel_rfl,by kernel_rfl,by kernel_rfl,by decide +kernel,by kernel_rfl⟩⟩⟩
theorem ok28 : OkF Try.prog (dcOf Try.prog) 28 Zz.F_spec_l2Or := Or.inl ⟨rfl,⟨⟨Try.f28,_,Try.func28,rfl,by kernel_rfl,by kernel_rfl,by kernel_rfl,by decide +kernel,by kernel_rfl⟩⟩⟩
theorem ok29 : OkF Try.prog (dcOf Try.prog) 29 Zz.F_impl_letterOf := Or.inl ⟨rfl,⟨⟨Try.f29,_,Try.func29,rfl,by kernel_rfl,by kernel_rfl,by kernel_rfl,by decide +kernel,by kernel_rfl⟩⟩⟩
theorem ok30 : OkF Try.prog (dcOf Try.prog) 30 Zz.F_impl_bracketedFrom := Or.inl ⟨rfl,⟨⟨Try.f30,_,Try.func30,rfl,by kernel_rfl,by kernel_rfl,by kernel_rfl,by decide +kernel,by kernel_rfl⟩⟩⟩
theorem ok31 : OkF Try.prog (dcOf Try.prog) 31 Zz.F_spec_l1In := Or.inl ⟨rfl,⟨⟨Try.f31,_,Try.func31,rfl,by kernel_rfl,by kernel_rfl,by kernel_rfl,by decide +kernel,by kernel_rfl⟩⟩⟩
theorem ok32 : OkF Try.prog (dcOf Try.prog) 32 Zz.F_spec_l2Held := Or.inl ⟨rfl,⟨⟨Try.f32,_,Try.func32,rfl,by kernel_rfl,by kernel_rfl,by kernel_rfl,by decide +kernel,by kernel_rfl⟩⟩⟩
theorem ok33 : OkF Try.prog (dcOf Try.prog) 33 Zz.F_spec_l2Starts := Or.inl ⟨rfl,⟨⟨Try.f33,_,Try.func33,rfl,by kernel_rfl,by kernel_rfl,by kernel_rfl,by decide +kernel,by kernel_rfl⟩⟩⟩
theorem ok34 : OkF Try.prog (dcOf Try.prog) 34 Zz.F_impl_readRow := Or.inl ⟨rfl,⟨⟨Try.f34,_,Try.func34,rfl,by kernel_rfl,by kernel_rfl,by kernel_rfl,by decide +kernel,by kernel_rfl⟩⟩⟩
theorem ok35 : OkF Try.prog (dcOf Try.prog) 35 Zz.F_impl_readAnd := Or.inl ⟨rfl,⟨⟨Try.f35,_,Try.func35,rfl,by kernel_rfl,by kernel_rfl,by kernel_rfl,by decide +kernel,by kernel_rfl⟩⟩⟩
theorem ok36 : OkF Try.prog (dcOf Try.prog) 36 Zz.F_spec_l20Rd_odd := Or.inl ⟨rfl,⟨⟨Try.f36,_,Try.func36,rfl,by kernel_rfl,by kernel_rfl,by kernel_rfl,by decide +kernel,by kernel_rfl⟩⟩⟩
theorem ok37 : OkF Try.prog (dcOf Try.prog) 37 Zz.F_spec_l2And := Or.inl ⟨rfl,⟨⟨Try.f37,_,Try.func37,rfl,by kernel_rfl,by kernel_rfl,by kernel_rfl,by decide +kernel,by kernel_rfl⟩⟩⟩
theorem ok38 : OkF Try.prog (dcOf Try.prog) 38 Zz.F_impl_readNot := Or.inl ⟨rfl,⟨⟨Try.f38,_,Try.func38,rfl,by kernel_rfl,by kernel_rfl,by kernel_rfl,by decide +kernel,by kernel_rfl⟩⟩⟩
theorem ok39 : OkF Try.prog (dcOf Try.prog) 39 Zz.F_spec_l2Atom := Or.inl ⟨rfl,⟨⟨Try.f39,_,Try.func39,rfl,by kernel_rfl,by kernel_rfl,by kernel_rfl,by decide +kernel,by kernel_rfl⟩⟩⟩
theorem ok40 : OkF Try.prog (dcOf Try.prog) 40 Zz.F_impl_readLetter := Or.inl ⟨rfl,⟨⟨Try.f40,_,Try.func40,rfl,by kernel_rfl,by kernel_rfl,by kernel_rfl,by decide +kernel,by kernel_rfl⟩⟩⟩
theorem ok41 : OkF Try.prog (dcOf Try.prog) 41 Zz.F_impl_placeOf := Or.inl ⟨rfl,⟨⟨Try.f41,_,Try.func41,rfl,by kernel_rfl,by kernel_rfl,by kernel_rfl,by decide +kernel,by kernel_rfl⟩⟩⟩
theorem mixed : Try.prog.follows .mixedOrders = true := by kernel_rfl
theorem okAll : ∀ f F,Zz.lf f = some F → OkF Try.prog (dcOf Try.prog) f F := by
 intro f F h
 unfold Zz.lf at h
 split at h
 ·injection h with h; subst h; exact ok3
 ·injection h with h; subst h; exact ok4
 ·injection h with h; subst h; exact ok5
 ·injection h with h; subst h; exact ok6
 ·injection h with h; subst h; exact ok7
 ·injection h with h; subst h; exact ok8
 ·injection h with h; subst h; exact ok9
 ·injection h with h; subst h; exact ok10
 ·injection h with h; subst h; exact ok11
 ·injection h with h; subst h; exact ok12
 ·injection h with h; subst h; exact ok13
 ·injection h with h; subst h; exact ok14
 ·injection h with h; subst h; exact ok15
 ·injection h with h; subst h; exact ok16
 ·injection h with h; subst h; exact ok17
 ·injection h with h; subst h; exact ok18
 ·injection h with h; subst h; exact ok19
 ·injection h with h; subst h; exact ok20
 ·injection h with h; subst h; exact ok21
 ·injection h with h; subst h; exact ok22
 ·injection h with h; subst h; exact ok23
 ·injection h with h; subst h; exact ok24
 ·injection h with h; subst h; exact ok25
 ·injection h with h; subst h; exact ok26
 ·injection h with h; subst h; exact ok27
 ·injection h with h; subst h; exact ok28
 ·injection h with h; subst h; exact ok29
 ·injection h with h; subst h; exact ok30
 ·injection h with h; subst h; exact ok31
 ·injection h with h; subst h; exact ok32
 ·injection h with h; subst h; exact ok33
 ·injection h with h; subst h; exact ok34
 ·injection h with h; subst h; exact ok35
 ·injection h with h; subst h; exact ok36
 ·injection h with h; subst h; exact ok37
 ·injection h with h; subst h; exact ok38
 ·injection h with h; subst h; exact ok39
 ·injection h with h; subst h; exact ok40
 ·injection h with h; subst h; exact ok41
 ·cases h
theorem said {f : Nat} {args : List DV} {r : DV × List DV} (h : call Zz.lf f args = some r) : CallSpec Try.prog f args r := call_sound okAll (draw_ok mixed) back_ok h
end Go.Proofs.Ytplfgkjggohajab.oks
