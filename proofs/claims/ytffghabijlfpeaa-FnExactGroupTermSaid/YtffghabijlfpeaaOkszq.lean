/- That the data is what the program says, function by function. No conditions. -/
import Derived.Test.YtffghabijlfpeaaIrzq
import Derived.Test.YtffghabijlfpeaaLgD
import Derived.Test.YtffghabijlfpeaaLgEzq
import Derived.Test.YtffghabijlfpeaaRows
set_option linter.unusedSectionVars false
set_option linter.unusedVariables false
set_option linter.unusedSimpArgs false
namespace Go.Proofs.Ytffghabijlfpeaa.oks
open Go.Lg Zz
theorem ok3 : OkF Try.prog (dcOf Try.prog) 3 Zz.F_laws_FnExactGroupTerm := Or.inl ⟨rfl,⟨⟨Try.f3,_,Try.func3,rfl,by kernel_rfl,by kernel_rfl,by kernel_rfl,by decide +kernel,by kernel_rfl⟩⟩⟩
theorem ok8 : OkF Try.prog (dcOf Try.prog) 8 Zz.F_laws_szIntSS := Or.inl ⟨rfl,⟨⟨Try.f8,_,Try.func8,rfl,by kernel_rfl,by kernel_rfl,by kernel_rfl,by decide +kernel,by kernel_rfl⟩⟩⟩
theorem ok9 : OkF Try.prog (dcOf Try.prog) 9 Zz.F_spec_GroupTerm := Or.inl ⟨rfl,⟨⟨Try.f9,_,Try.func9,rfl,by kernel_rfl,by kernel_rfl,by kernel_rfl,by decide +kernel,by kernel_rfl⟩⟩⟩
theorem ok10 : OkF Try.prog (dcOf Try.prog) 10 Zz.F_laws_toIntSS := Or.inl ⟨rfl,⟨⟨Try.f10,_,Try.func10,rfl,by kernel_rfl,by kernel_rfl,by kernel_rfl,by decide +kernel,by kernel_rfl⟩⟩⟩
theorem ok11 : OkF Try.prog (dcOf Try.prog) 11 Zz.F_impl_GroupTerm := Or.inl ⟨rfl,⟨⟨Try.f11,_,Try.func11,rfl,by kernel_rfl,by kernel_rfl,by kernel_rfl,by decide +kernel,by kernel_rfl⟩⟩⟩
theorem ok12 : OkF Try.prog (dcOf Try.prog) 12 Zz.F_laws_eqMarkS := Or.inl ⟨rfl,⟨⟨Try.f12,_,Try.func12,rfl,by kernel_rfl,by kernel_rfl,by kernel_rfl,by decide +kernel,by kernel_rfl⟩⟩⟩
theorem ok13 : OkF Try.prog (dcOf Try.prog) 13 Zz.F_laws_eqIntSS := Or.inl ⟨rfl,⟨⟨Try.f13,_,Try.func13,rfl,by kernel_rfl,by kernel_rfl,by kernel_rfl,by decide +kernel,by kernel_rfl⟩⟩⟩
theorem ok14 : OkF Try.prog (dcOf Try.prog) 14 Zz.F_laws_markIntSS := Or.inl ⟨rfl,⟨⟨Try.f14,_,Try.func14,rfl,by kernel_rfl,by kernel_rfl,by kernel_rfl,by decide +kernel,by kernel_rfl⟩⟩⟩
theorem ok15 : OkF Try.prog (dcOf Try.prog) 15 Zz.F_laws_markMarkS := Or.inl ⟨rfl,⟨⟨Try.f15,_,Try.func15,rfl,by kernel_rfl,by kernel_rfl,by kernel_rfl,by decide +kernel,by kernel_rfl⟩⟩⟩
theorem ok16 : OkF Try.prog (dcOf Try.prog) 16 Zz.F_laws_heldMarkS := Or.inl ⟨rfl,⟨⟨Try.f16,_,Try.func16,rfl,by kernel_rfl,by kernel_rfl,by kernel_rfl,by decide +kernel,by kernel_rfl⟩⟩⟩
theorem ok26 : OkF Try.prog (dcOf Try.prog) 26 Zz.F_laws_eqIntS := Or.inl ⟨rfl,⟨⟨Try.f26,_,Try.func26,rfl,by kernel_rfl,by kernel_rfl,by kernel_rfl,by decide +kernel,by kernel_rfl⟩⟩⟩
theorem ok27 : OkF Try.prog (dcOf Try.prog) 27 Zz.F_laws_markIntS := Or.inl ⟨rfl,⟨⟨Try.f27,_,Try.func27,rfl,by kernel_rfl,by kernel_rfl,by kernel_rfl,by decide +kernel,by kernel_rfl⟩⟩⟩
theorem ok33 : OkF Try.prog (dcOf Try.prog) 33 Zz.F_laws_szIntS := Or.inl ⟨rfl,⟨⟨Try.f33,_,Try.func33,rfl,by kernel_rfl,by kernel_rfl,by kernel_rfl,by decide +kernel,by kernel_rfl⟩⟩⟩
theorem ok34 : OkF Try.prog (dcOf Try.prog) 34 Zz.F_spec_GroupsOk := Or.inl ⟨rfl,⟨⟨Try.f34,_,Try.func34,rfl,by kernel_rfl,by kernel_rfl,by kernel_rfl,by decide +kernel,by kernel_rfl⟩⟩⟩
theorem ok35 : OkF Try.prog (dcOf Try.prog) 35 Zz.F_laws_toIntS := Or.inl ⟨rfl,⟨⟨Try.f35,_,Try.func35,rfl,by kernel_rfl,by kernel_rfl,by kernel_rfl,by decide +kernel,by kernel_rfl⟩⟩⟩
theorem ok36 : OkF Try.prog (dcOf Try.prog) 36 Zz.F_impl_GroupsOk := Or.inl ⟨rfl,⟨⟨Try.f36,_,Try.func36,rfl,by kernel_rfl,by kernel_rfl,by kernel_rfl,by decide +kernel,by kernel_rfl⟩⟩⟩
theorem ok37 : OkF Try.prog (dcOf Try.prog) 37 Zz.F_laws_eqMark := Or.inl ⟨rfl,⟨⟨Try.f37,_,Try.func37,rfl,by kernel_rfl,by kernel_rfl,by kernel_rfl,by decide +kernel,by kernel_rfl⟩⟩⟩
theorem ok48 : OkF Try.prog (dcOf Try.prog) 48 Zz.F_spec_l1In := Or.inl ⟨rfl,⟨⟨Try.f48,_,Try.func48,rfl,by kernel_rfl,by kernel_rfl,by kernel_rfl,by decide +kernel,by kernel_rfl⟩⟩⟩
theorem ok55 : OkF Try.prog (dcOf Try.prog) 55 Zz.F_impl_isWithin := Or.inl ⟨rfl,⟨⟨Try.f55,_,Try.func55,rfl,by kernel_rfl,by kernel_rfl,by kernel_rfl,by decide +kernel,by kernel_rfl⟩⟩⟩
theorem ok57 : OkF Try.prog (dcOf Try.prog) 57 Zz.F_impl_manyOk := Or.inl ⟨rfl,⟨⟨Try.f57,_,Try.func57,rfl,by kernel_rfl,by kernel_rfl,by kernel_rfl,by decide +kernel,by kernel_rfl⟩⟩⟩
theorem ok58 : OkF Try.prog (dcOf Try.prog) 58 Zz.F_impl_OrderOk := Or.inl ⟨rfl,⟨⟨Try.f58,_,Try.func58,rfl,by kernel_rfl,by kernel_rfl,by kernel_rfl,by decide +kernel,by kernel_rfl⟩⟩⟩
theorem ok68 : OkF Try.prog (dcOf Try.prog) 68 Zz.F_impl_hasTest := Or.inl ⟨rfl,⟨⟨Try.f68,_,Try.func68,rfl,by kernel_rfl,by kernel_rfl,by kernel_rfl,by decide +kernel,by kernel_rfl⟩⟩⟩
theorem mixed : Try.prog.follows .mixedOrders = true := by kernel_rfl
theorem okAll : ∀ f F,Zz.lf f = some F → OkF Try.prog (dcOf Try.prog) f F := by
 intro f F h
 unfold Zz.lf at h
 split at h
 ·injection h with h; subst h; exact ok3
 ·injection h with h; subst h; exact ok8
 ·injection h with h; subst h; exact ok9
 ·injection h with h; subst h; exact ok10
 ·injection h with h; subst h; exact ok11
 ·injection h with h; subst h; exact ok12
 ·injection h with h; subst h; exact ok13
 ·injection h with h; subst h; exact ok14
 ·injection h with h; subst h; exact ok15
 ·injection h with h; subst h; exact ok16
 ·injection h with h; subst h; exact ok26
 ·injection h with h; subst h; exact ok27
 ·injection h with h; subst h; exact ok33
 ·injection h with h; subst h; exact ok34
 ·injection h with h; subst h; exact ok35
 ·injection h with h; subst h; exact ok36
 ·injection h with h; subst h; exact ok37
 ·injection h with h; subst h; exact ok48
 ·injection h with h; subst h; exact ok55
 ·injection h with h; subst h; exact ok57
 ·injection h with h; subst h; exact ok58
 ·injection h with h; subst h; exact ok68
 ·cases h
theorem said {f : Nat} {args : List DV} {r : DV × List DV} (h : call Zz.lf f args = some r) : CallSpec Try.prog f args r := call_sound okAll (draw_ok mixed) back_ok h
end Go.Proofs.Ytffghabijlfpeaa.oks
