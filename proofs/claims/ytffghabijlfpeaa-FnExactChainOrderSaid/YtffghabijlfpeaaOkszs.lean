/- That the data is what the program says, function by function. No conditions. -/
import Derived.Test.YtffghabijlfpeaaIrzs
import Derived.Test.YtffghabijlfpeaaLgD
import Derived.Test.YtffghabijlfpeaaLgEzs
import Derived.Test.YtffghabijlfpeaaRows
set_option linter.unusedSectionVars false
set_option linter.unusedVariables false
set_option linter.unusedSimpArgs false
namespace Go.Proofs.Ytffghabijlfpeaa.oks
open Go.Lg Zz
theorem ok5 : OkF Try.prog (dcOf Try.prog) 5 Zz.F_laws_FnExactChainOrder := Or.inl ⟨rfl,⟨⟨Try.f5,_,Try.func5,rfl,by kernel_rfl,by kernel_rfl,by kernel_rfl,by decide +kernel,by kernel_rfl⟩⟩⟩
theorem ok8 : OkF Try.prog (dcOf Try.prog) 8 Zz.F_laws_szIntSS := Or.inl ⟨rfl,⟨⟨Try.f8,_,Try.func8,rfl,by kernel_rfl,by kernel_rfl,by kernel_rfl,by decide +kernel,by kernel_rfl⟩⟩⟩
theorem ok10 : OkF Try.prog (dcOf Try.prog) 10 Zz.F_laws_toIntSS := Or.inl ⟨rfl,⟨⟨Try.f10,_,Try.func10,rfl,by kernel_rfl,by kernel_rfl,by kernel_rfl,by decide +kernel,by kernel_rfl⟩⟩⟩
theorem ok13 : OkF Try.prog (dcOf Try.prog) 13 Zz.F_laws_eqIntSS := Or.inl ⟨rfl,⟨⟨Try.f13,_,Try.func13,rfl,by kernel_rfl,by kernel_rfl,by kernel_rfl,by decide +kernel,by kernel_rfl⟩⟩⟩
theorem ok14 : OkF Try.prog (dcOf Try.prog) 14 Zz.F_laws_markIntSS := Or.inl ⟨rfl,⟨⟨Try.f14,_,Try.func14,rfl,by kernel_rfl,by kernel_rfl,by kernel_rfl,by decide +kernel,by kernel_rfl⟩⟩⟩
theorem ok17 : OkF Try.prog (dcOf Try.prog) 17 Zz.F_laws_szTestS := Or.inl ⟨rfl,⟨⟨Try.f17,_,Try.func17,rfl,by kernel_rfl,by kernel_rfl,by kernel_rfl,by decide +kernel,by kernel_rfl⟩⟩⟩
theorem ok19 : OkF Try.prog (dcOf Try.prog) 19 Zz.F_laws_toTestS := Or.inl ⟨rfl,⟨⟨Try.f19,_,Try.func19,rfl,by kernel_rfl,by kernel_rfl,by kernel_rfl,by decide +kernel,by kernel_rfl⟩⟩⟩
theorem ok21 : OkF Try.prog (dcOf Try.prog) 21 Zz.F_laws_eqTestS := Or.inl ⟨rfl,⟨⟨Try.f21,_,Try.func21,rfl,by kernel_rfl,by kernel_rfl,by kernel_rfl,by decide +kernel,by kernel_rfl⟩⟩⟩
theorem ok22 : OkF Try.prog (dcOf Try.prog) 22 Zz.F_laws_markTestS := Or.inl ⟨rfl,⟨⟨Try.f22,_,Try.func22,rfl,by kernel_rfl,by kernel_rfl,by kernel_rfl,by decide +kernel,by kernel_rfl⟩⟩⟩
theorem ok24 : OkF Try.prog (dcOf Try.prog) 24 Zz.F_spec_ChainOrder := Or.inl ⟨rfl,⟨⟨Try.f24,_,Try.func24,rfl,by kernel_rfl,by kernel_rfl,by kernel_rfl,by decide +kernel,by kernel_rfl⟩⟩⟩
theorem ok25 : OkF Try.prog (dcOf Try.prog) 25 Zz.F_impl_ChainOrder := Or.inl ⟨rfl,⟨⟨Try.f25,_,Try.func25,rfl,by kernel_rfl,by kernel_rfl,by kernel_rfl,by decide +kernel,by kernel_rfl⟩⟩⟩
theorem ok26 : OkF Try.prog (dcOf Try.prog) 26 Zz.F_laws_eqIntS := Or.inl ⟨rfl,⟨⟨Try.f26,_,Try.func26,rfl,by kernel_rfl,by kernel_rfl,by kernel_rfl,by decide +kernel,by kernel_rfl⟩⟩⟩
theorem ok27 : OkF Try.prog (dcOf Try.prog) 27 Zz.F_laws_markIntS := Or.inl ⟨rfl,⟨⟨Try.f27,_,Try.func27,rfl,by kernel_rfl,by kernel_rfl,by kernel_rfl,by decide +kernel,by kernel_rfl⟩⟩⟩
theorem ok28 : OkF Try.prog (dcOf Try.prog) 28 Zz.F_laws_heldIntS := Or.inl ⟨rfl,⟨⟨Try.f28,_,Try.func28,rfl,by kernel_rfl,by kernel_rfl,by kernel_rfl,by decide +kernel,by kernel_rfl⟩⟩⟩
theorem ok33 : OkF Try.prog (dcOf Try.prog) 33 Zz.F_laws_szIntS := Or.inl ⟨rfl,⟨⟨Try.f33,_,Try.func33,rfl,by kernel_rfl,by kernel_rfl,by kernel_rfl,by decide +kernel,by kernel_rfl⟩⟩⟩
theorem ok34 : OkF Try.prog (dcOf Try.prog) 34 Zz.F_spec_GroupsOk := Or.inl ⟨rfl,⟨⟨Try.f34,_,Try.func34,rfl,by kernel_rfl,by kernel_rfl,by kernel_rfl,by decide +kernel,by kernel_rfl⟩⟩⟩
theorem ok35 : OkF Try.prog (dcOf Try.prog) 35 Zz.F_laws_toIntS := Or.inl ⟨rfl,⟨⟨Try.f35,_,Try.func35,rfl,by kernel_rfl,by kernel_rfl,by kernel_rfl,by decide +kernel,by kernel_rfl⟩⟩⟩
theorem ok36 : OkF Try.prog (dcOf Try.prog) 36 Zz.F_impl_GroupsOk := Or.inl ⟨rfl,⟨⟨Try.f36,_,Try.func36,rfl,by kernel_rfl,by kernel_rfl,by kernel_rfl,by decide +kernel,by kernel_rfl⟩⟩⟩
theorem ok38 : OkF Try.prog (dcOf Try.prog) 38 Zz.F_spec_TestsOk := Or.inl ⟨rfl,⟨⟨Try.f38,_,Try.func38,rfl,by kernel_rfl,by kernel_rfl,by kernel_rfl,by decide +kernel,by kernel_rfl⟩⟩⟩
theorem ok41 : OkF Try.prog (dcOf Try.prog) 41 Zz.F_laws_toTest := Or.inl ⟨rfl,⟨⟨Try.f41,_,Try.func41,rfl,by kernel_rfl,by kernel_rfl,by kernel_rfl,by decide +kernel,by kernel_rfl⟩⟩⟩
theorem ok43 : OkF Try.prog (dcOf Try.prog) 43 Zz.F_laws_eqTest := Or.inl ⟨rfl,⟨⟨Try.f43,_,Try.func43,rfl,by kernel_rfl,by kernel_rfl,by kernel_rfl,by decide +kernel,by kernel_rfl⟩⟩⟩
theorem ok44 : OkF Try.prog (dcOf Try.prog) 44 Zz.F_spec_l9Ratio := Or.inl ⟨rfl,⟨⟨Try.f44,_,Try.func44,rfl,by kernel_rfl,by kernel_rfl,by kernel_rfl,by decide +kernel,by kernel_rfl⟩⟩⟩
theorem ok45 : OkF Try.prog (dcOf Try.prog) 45 Zz.F_impl_TestsOk := Or.inl ⟨rfl,⟨⟨Try.f45,_,Try.func45,rfl,by kernel_rfl,by kernel_rfl,by kernel_rfl,by decide +kernel,by kernel_rfl⟩⟩⟩
theorem ok46 : OkF Try.prog (dcOf Try.prog) 46 Zz.F_impl_leastPart := Or.inl ⟨rfl,⟨⟨Try.f46,_,Try.func46,rfl,by kernel_rfl,by kernel_rfl,by kernel_rfl,by decide +kernel,by kernel_rfl⟩⟩⟩
theorem ok47 : OkF Try.prog (dcOf Try.prog) 47 Zz.F_impl_behindPart := Or.inl ⟨rfl,⟨⟨Try.f47,_,Try.func47,rfl,by kernel_rfl,by kernel_rfl,by kernel_rfl,by decide +kernel,by kernel_rfl⟩⟩⟩
theorem ok48 : OkF Try.prog (dcOf Try.prog) 48 Zz.F_spec_l1In := Or.inl ⟨rfl,⟨⟨Try.f48,_,Try.func48,rfl,by kernel_rfl,by kernel_rfl,by kernel_rfl,by decide +kernel,by kernel_rfl⟩⟩⟩
theorem ok49 : OkF Try.prog (dcOf Try.prog) 49 Zz.F_spec_l1Power := Or.inl ⟨rfl,⟨⟨Try.f49,_,Try.func49,rfl,by kernel_rfl,by kernel_rfl,by kernel_rfl,by decide +kernel,by kernel_rfl⟩⟩⟩
theorem ok55 : OkF Try.prog (dcOf Try.prog) 55 Zz.F_impl_isWithin := Or.inl ⟨rfl,⟨⟨Try.f55,_,Try.func55,rfl,by kernel_rfl,by kernel_rfl,by kernel_rfl,by decide +kernel,by kernel_rfl⟩⟩⟩
theorem ok57 : OkF Try.prog (dcOf Try.prog) 57 Zz.F_impl_manyOk := Or.inl ⟨rfl,⟨⟨Try.f57,_,Try.func57,rfl,by kernel_rfl,by kernel_rfl,by kernel_rfl,by decide +kernel,by kernel_rfl⟩⟩⟩
theorem ok58 : OkF Try.prog (dcOf Try.prog) 58 Zz.F_impl_OrderOk := Or.inl ⟨rfl,⟨⟨Try.f58,_,Try.func58,rfl,by kernel_rfl,by kernel_rfl,by kernel_rfl,by decide +kernel,by kernel_rfl⟩⟩⟩
theorem ok60 : OkF Try.prog (dcOf Try.prog) 60 Zz.F_impl_ratio_isLess := Or.inl ⟨rfl,⟨⟨Try.f60,_,Try.func60,rfl,by kernel_rfl,by kernel_rfl,by kernel_rfl,by decide +kernel,by kernel_rfl⟩⟩⟩
theorem ok63 : OkF Try.prog (dcOf Try.prog) 63 Zz.F_impl_ratioOfPart := Or.inl ⟨rfl,⟨⟨Try.f63,_,Try.func63,rfl,by kernel_rfl,by kernel_rfl,by kernel_rfl,by decide +kernel,by kernel_rfl⟩⟩⟩
theorem ok64 : OkF Try.prog (dcOf Try.prog) 64 Zz.F_slices_Clone_int_int := Or.inl ⟨rfl,⟨⟨Try.f64,_,Try.func64,rfl,by kernel_rfl,by kernel_rfl,by kernel_rfl,by decide +kernel,by kernel_rfl⟩⟩⟩
theorem ok68 : OkF Try.prog (dcOf Try.prog) 68 Zz.F_impl_hasTest := Or.inl ⟨rfl,⟨⟨Try.f68,_,Try.func68,rfl,by kernel_rfl,by kernel_rfl,by kernel_rfl,by decide +kernel,by kernel_rfl⟩⟩⟩
theorem ok74 : OkF Try.prog (dcOf Try.prog) 74 Zz.F_impl_wholeOf := Or.inl ⟨rfl,⟨⟨Try.f74,_,Try.func74,rfl,by kernel_rfl,by kernel_rfl,by kernel_rfl,by decide +kernel,by kernel_rfl⟩⟩⟩
theorem mixed : Try.prog.follows .mixedOrders = true := by kernel_rfl
theorem okAll : ∀ f F,Zz.lf f = some F → OkF Try.prog (dcOf Try.prog) f F := by
 intro f F h
 unfold Zz.lf at h
 split at h
 ·injection h with h; subst h; exact ok5
 ·injection h with h; subst h; exact ok8
 ·injection h with h; subst h; exact ok10
 ·injection h with h; subst h; exact ok13
 ·injection h with h; subst h; exact ok14
 ·injection h with h; subst h; exact ok17
 ·injection h with h; subst h; exact ok19
 ·injection h with h; subst h; exact ok21
 ·injection h with h; subst h; exact ok22
 ·injection h with h; subst h; exact ok24
 ·injection h with h; subst h; exact ok25
 ·injection h with h; subst h; exact ok26
 ·injection h with h; subst h; exact ok27
 ·injection h with h; subst h; exact ok28
 ·injection h with h; subst h; exact ok33
 ·injection h with h; subst h; exact ok34
 ·injection h with h; subst h; exact ok35
 ·injection h with h; subst h; exact ok36
 ·injection h with h; subst h; exact ok38
 ·injection h with h; subst h; exact ok41
 ·injection h with h; subst h; exact ok43
 ·injection h with h; subst h; exact ok44
 ·injection h with h; subst h; exact ok45
 ·injection h with h; subst h; exact ok46
 ·injection h with h; subst h; exact ok47
 ·injection h with h; subst h; exact ok48
 ·injection h with h; subst h; exact ok49
 ·injection h with h; subst h; exact ok55
 ·injection h with h; subst h; exact ok57
 ·injection h with h; subst h; exact ok58
 ·injection h with h; subst h; exact ok60
 ·injection h with h; subst h; exact ok63
 ·injection h with h; subst h; exact ok64
 ·injection h with h; subst h; exact ok68
 ·injection h with h; subst h; exact ok74
 ·cases h
theorem said {f : Nat} {args : List DV} {r : DV × List DV} (h : call Zz.lf f args = some r) : CallSpec Try.prog f args r := call_sound okAll (draw_ok mixed) back_ok h
end Go.Proofs.Ytffghabijlfpeaa.oks
