/- That the data is what the program says, function by function. No conditions. -/
import Derived.Test.YtffghabijlfpeaaIrzp
import Derived.Test.YtffghabijlfpeaaLgD
import Derived.Test.YtffghabijlfpeaaLgEzp
import Derived.Test.YtffghabijlfpeaaRows
set_option linter.unusedSectionVars false
set_option linter.unusedVariables false
set_option linter.unusedSimpArgs false
namespace Go.Proofs.Ytffghabijlfpeaa.oks
open Go.Lg Zz
theorem ok6 : OkF Try.prog (dcOf Try.prog) 6 Zz.F_laws_FnExactBestRounds := Or.inl ⟨rfl,⟨⟨Try.f6,_,Try.func6,rfl,by kernel_rfl,by kernel_rfl,by kernel_rfl,by decide +kernel,by kernel_rfl⟩⟩⟩
theorem ok13 : OkF Try.prog (dcOf Try.prog) 13 Zz.F_laws_eqIntSS := Or.inl ⟨rfl,⟨⟨Try.f13,_,Try.func13,rfl,by kernel_rfl,by kernel_rfl,by kernel_rfl,by decide +kernel,by kernel_rfl⟩⟩⟩
theorem ok14 : OkF Try.prog (dcOf Try.prog) 14 Zz.F_laws_markIntSS := Or.inl ⟨rfl,⟨⟨Try.f14,_,Try.func14,rfl,by kernel_rfl,by kernel_rfl,by kernel_rfl,by decide +kernel,by kernel_rfl⟩⟩⟩
theorem ok17 : OkF Try.prog (dcOf Try.prog) 17 Zz.F_laws_szTestS := Or.inl ⟨rfl,⟨⟨Try.f17,_,Try.func17,rfl,by kernel_rfl,by kernel_rfl,by kernel_rfl,by decide +kernel,by kernel_rfl⟩⟩⟩
theorem ok19 : OkF Try.prog (dcOf Try.prog) 19 Zz.F_laws_toTestS := Or.inl ⟨rfl,⟨⟨Try.f19,_,Try.func19,rfl,by kernel_rfl,by kernel_rfl,by kernel_rfl,by decide +kernel,by kernel_rfl⟩⟩⟩
theorem ok21 : OkF Try.prog (dcOf Try.prog) 21 Zz.F_laws_eqTestS := Or.inl ⟨rfl,⟨⟨Try.f21,_,Try.func21,rfl,by kernel_rfl,by kernel_rfl,by kernel_rfl,by decide +kernel,by kernel_rfl⟩⟩⟩
theorem ok22 : OkF Try.prog (dcOf Try.prog) 22 Zz.F_laws_markTestS := Or.inl ⟨rfl,⟨⟨Try.f22,_,Try.func22,rfl,by kernel_rfl,by kernel_rfl,by kernel_rfl,by decide +kernel,by kernel_rfl⟩⟩⟩
theorem ok23 : OkF Try.prog (dcOf Try.prog) 23 Zz.F_laws_heldIntSS := Or.inl ⟨rfl,⟨⟨Try.f23,_,Try.func23,rfl,by kernel_rfl,by kernel_rfl,by kernel_rfl,by decide +kernel,by kernel_rfl⟩⟩⟩
theorem ok26 : OkF Try.prog (dcOf Try.prog) 26 Zz.F_laws_eqIntS := Or.inl ⟨rfl,⟨⟨Try.f26,_,Try.func26,rfl,by kernel_rfl,by kernel_rfl,by kernel_rfl,by decide +kernel,by kernel_rfl⟩⟩⟩
theorem ok27 : OkF Try.prog (dcOf Try.prog) 27 Zz.F_laws_markIntS := Or.inl ⟨rfl,⟨⟨Try.f27,_,Try.func27,rfl,by kernel_rfl,by kernel_rfl,by kernel_rfl,by decide +kernel,by kernel_rfl⟩⟩⟩
theorem ok28 : OkF Try.prog (dcOf Try.prog) 28 Zz.F_laws_heldIntS := Or.inl ⟨rfl,⟨⟨Try.f28,_,Try.func28,rfl,by kernel_rfl,by kernel_rfl,by kernel_rfl,by decide +kernel,by kernel_rfl⟩⟩⟩
theorem ok29 : OkF Try.prog (dcOf Try.prog) 29 Zz.F_spec_BestRounds := Or.inl ⟨rfl,⟨⟨Try.f29,_,Try.func29,rfl,by kernel_rfl,by kernel_rfl,by kernel_rfl,by decide +kernel,by kernel_rfl⟩⟩⟩
theorem ok30 : OkF Try.prog (dcOf Try.prog) 30 Zz.F_impl_BestRounds := Or.inl ⟨rfl,⟨⟨Try.f30,_,Try.func30,rfl,by kernel_rfl,by kernel_rfl,by kernel_rfl,by decide +kernel,by kernel_rfl⟩⟩⟩
theorem ok38 : OkF Try.prog (dcOf Try.prog) 38 Zz.F_spec_TestsOk := Or.inl ⟨rfl,⟨⟨Try.f38,_,Try.func38,rfl,by kernel_rfl,by kernel_rfl,by kernel_rfl,by decide +kernel,by kernel_rfl⟩⟩⟩
theorem ok41 : OkF Try.prog (dcOf Try.prog) 41 Zz.F_laws_toTest := Or.inl ⟨rfl,⟨⟨Try.f41,_,Try.func41,rfl,by kernel_rfl,by kernel_rfl,by kernel_rfl,by decide +kernel,by kernel_rfl⟩⟩⟩
theorem ok43 : OkF Try.prog (dcOf Try.prog) 43 Zz.F_laws_eqTest := Or.inl ⟨rfl,⟨⟨Try.f43,_,Try.func43,rfl,by kernel_rfl,by kernel_rfl,by kernel_rfl,by decide +kernel,by kernel_rfl⟩⟩⟩
theorem ok45 : OkF Try.prog (dcOf Try.prog) 45 Zz.F_impl_TestsOk := Or.inl ⟨rfl,⟨⟨Try.f45,_,Try.func45,rfl,by kernel_rfl,by kernel_rfl,by kernel_rfl,by decide +kernel,by kernel_rfl⟩⟩⟩
theorem ok48 : OkF Try.prog (dcOf Try.prog) 48 Zz.F_spec_l1In := Or.inl ⟨rfl,⟨⟨Try.f48,_,Try.func48,rfl,by kernel_rfl,by kernel_rfl,by kernel_rfl,by decide +kernel,by kernel_rfl⟩⟩⟩
theorem ok49 : OkF Try.prog (dcOf Try.prog) 49 Zz.F_spec_l1Power := Or.inl ⟨rfl,⟨⟨Try.f49,_,Try.func49,rfl,by kernel_rfl,by kernel_rfl,by kernel_rfl,by decide +kernel,by kernel_rfl⟩⟩⟩
theorem ok50 : OkF Try.prog (dcOf Try.prog) 50 Zz.F_spec_l10Best := Or.inl ⟨rfl,⟨⟨Try.f50,_,Try.func50,rfl,by kernel_rfl,by kernel_rfl,by kernel_rfl,by decide +kernel,by kernel_rfl⟩⟩⟩
theorem ok51 : OkF Try.prog (dcOf Try.prog) 51 Zz.F_impl_feeOk := Or.inl ⟨rfl,⟨⟨Try.f51,_,Try.func51,rfl,by kernel_rfl,by kernel_rfl,by kernel_rfl,by decide +kernel,by kernel_rfl⟩⟩⟩
theorem ok52 : OkF Try.prog (dcOf Try.prog) 52 Zz.F_impl_bestRoundsOf := Or.inl ⟨rfl,⟨⟨Try.f52,_,Try.func52,rfl,by kernel_rfl,by kernel_rfl,by kernel_rfl,by decide +kernel,by kernel_rfl⟩⟩⟩
theorem ok53 : OkF Try.prog (dcOf Try.prog) 53 Zz.F_impl_allOf := Or.inl ⟨rfl,⟨⟨Try.f53,_,Try.func53,rfl,by kernel_rfl,by kernel_rfl,by kernel_rfl,by decide +kernel,by kernel_rfl⟩⟩⟩
theorem ok54 : OkF Try.prog (dcOf Try.prog) 54 Zz.F_impl_rowOf := Or.inl ⟨rfl,⟨⟨Try.f54,_,Try.func54,rfl,by kernel_rfl,by kernel_rfl,by kernel_rfl,by decide +kernel,by kernel_rfl⟩⟩⟩
theorem ok55 : OkF Try.prog (dcOf Try.prog) 55 Zz.F_impl_isWithin := Or.inl ⟨rfl,⟨⟨Try.f55,_,Try.func55,rfl,by kernel_rfl,by kernel_rfl,by kernel_rfl,by decide +kernel,by kernel_rfl⟩⟩⟩
theorem ok57 : OkF Try.prog (dcOf Try.prog) 57 Zz.F_impl_manyOk := Or.inl ⟨rfl,⟨⟨Try.f57,_,Try.func57,rfl,by kernel_rfl,by kernel_rfl,by kernel_rfl,by decide +kernel,by kernel_rfl⟩⟩⟩
theorem ok65 : OkF Try.prog (dcOf Try.prog) 65 Zz.F_impl_averageOfRound := Or.inl ⟨rfl,⟨⟨Try.f65,_,Try.func65,rfl,by kernel_rfl,by kernel_rfl,by kernel_rfl,by decide +kernel,by kernel_rfl⟩⟩⟩
theorem ok66 : OkF Try.prog (dcOf Try.prog) 66 Zz.F_impl_sizeOf := Or.inl ⟨rfl,⟨⟨Try.f66,_,Try.func66,rfl,by kernel_rfl,by kernel_rfl,by kernel_rfl,by decide +kernel,by kernel_rfl⟩⟩⟩
theorem ok67 : OkF Try.prog (dcOf Try.prog) 67 Zz.F_impl_statesOf := Or.inl ⟨rfl,⟨⟨Try.f67,_,Try.func67,rfl,by kernel_rfl,by kernel_rfl,by kernel_rfl,by decide +kernel,by kernel_rfl⟩⟩⟩
theorem ok68 : OkF Try.prog (dcOf Try.prog) 68 Zz.F_impl_hasTest := Or.inl ⟨rfl,⟨⟨Try.f68,_,Try.func68,rfl,by kernel_rfl,by kernel_rfl,by kernel_rfl,by decide +kernel,by kernel_rfl⟩⟩⟩
theorem ok74 : OkF Try.prog (dcOf Try.prog) 74 Zz.F_impl_wholeOf := Or.inl ⟨rfl,⟨⟨Try.f74,_,Try.func74,rfl,by kernel_rfl,by kernel_rfl,by kernel_rfl,by decide +kernel,by kernel_rfl⟩⟩⟩
theorem ok75 : OkF Try.prog (dcOf Try.prog) 75 Zz.F_math_bits_OnesCount := Or.inl ⟨rfl,⟨⟨Try.f75,_,Try.func75,rfl,by kernel_rfl,by kernel_rfl,by kernel_rfl,by decide +kernel,by kernel_rfl⟩⟩⟩
theorem ok87 : OkF Try.prog (dcOf Try.prog) 87 Zz.F_math_bits_OnesCount64 := Or.inl ⟨rfl,⟨⟨Try.f87,_,Try.func87,rfl,by kernel_rfl,by kernel_rfl,by kernel_rfl,by decide +kernel,by kernel_rfl⟩⟩⟩
theorem mixed : Try.prog.follows .mixedOrders = true := by kernel_rfl
theorem okAll : ∀ f F,Zz.lf f = some F → OkF Try.prog (dcOf Try.prog) f F := by
 intro f F h
 unfold Zz.lf at h
 split at h
 ·injection h with h; subst h; exact ok6
 ·injection h with h; subst h; exact ok13
 ·injection h with h; subst h; exact ok14
 ·injection h with h; subst h; exact ok17
 ·injection h with h; subst h; exact ok19
 ·injection h with h; subst h; exact ok21
 ·injection h with h; subst h; exact ok22
 ·injection h with h; subst h; exact ok23
 ·injection h with h; subst h; exact ok26
 ·injection h with h; subst h; exact ok27
 ·injection h with h; subst h; exact ok28
 ·injection h with h; subst h; exact ok29
 ·injection h with h; subst h; exact ok30
 ·injection h with h; subst h; exact ok38
 ·injection h with h; subst h; exact ok41
 ·injection h with h; subst h; exact ok43
 ·injection h with h; subst h; exact ok45
 ·injection h with h; subst h; exact ok48
 ·injection h with h; subst h; exact ok49
 ·injection h with h; subst h; exact ok50
 ·injection h with h; subst h; exact ok51
 ·injection h with h; subst h; exact ok52
 ·injection h with h; subst h; exact ok53
 ·injection h with h; subst h; exact ok54
 ·injection h with h; subst h; exact ok55
 ·injection h with h; subst h; exact ok57
 ·injection h with h; subst h; exact ok65
 ·injection h with h; subst h; exact ok66
 ·injection h with h; subst h; exact ok67
 ·injection h with h; subst h; exact ok68
 ·injection h with h; subst h; exact ok74
 ·injection h with h; subst h; exact ok75
 ·injection h with h; subst h; exact ok87
 ·cases h
theorem said {f : Nat} {args : List DV} {r : DV × List DV} (h : call Zz.lf f args = some r) : CallSpec Try.prog f args r := call_sound okAll (draw_ok mixed) back_ok h
end Go.Proofs.Ytffghabijlfpeaa.oks
