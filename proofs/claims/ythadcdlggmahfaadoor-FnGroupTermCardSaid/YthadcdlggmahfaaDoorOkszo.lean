/- That the data is what the program says, function by function. No conditions. -/
import Derived.Test.YthadcdlggmahfaaDoorIrzo
import Derived.Test.YthadcdlggmahfaaDoorLgD
import Derived.Test.YthadcdlggmahfaaDoorRows
set_option linter.unusedSectionVars false
set_option linter.unusedVariables false
set_option linter.unusedSimpArgs false
namespace Go.Proofs.YthadcdlggmahfaaDoor.oks
open Go.Lg Zz
theorem ok3 : OkF Tryd.prog (dcOf Tryd.prog) 3 Zz.F_laws_FnGroupTerm := Or.inl ⟨rfl, ⟨⟨Tryd.f3, _, Tryd.func3, rfl, by kernel_rfl, by kernel_rfl, by kernel_rfl, by decide +kernel, by kernel_rfl⟩⟩⟩
theorem ok8 : OkF Tryd.prog (dcOf Tryd.prog) 8 Zz.F_spec_DrawGroupTerm := Or.inl ⟨rfl, ⟨⟨Tryd.f8, _, Tryd.func8, rfl, by kernel_rfl, by kernel_rfl, by kernel_rfl, by decide +kernel, by kernel_rfl⟩⟩⟩
theorem ok9 : OkF Tryd.prog (dcOf Tryd.prog) 9 Zz.F_impl_GroupTerm := Or.inl ⟨rfl, ⟨⟨Tryd.f9, _, Tryd.func9, rfl, by kernel_rfl, by kernel_rfl, by kernel_rfl, by decide +kernel, by kernel_rfl⟩⟩⟩
theorem ok10 : OkF Tryd.prog (dcOf Tryd.prog) 10 Zz.F_laws_sameMarks := Or.inl ⟨rfl, ⟨⟨Tryd.f10, _, Tryd.func10, rfl, by kernel_rfl, by kernel_rfl, by kernel_rfl, by decide +kernel, by kernel_rfl⟩⟩⟩
theorem ok11 : OkF Tryd.prog (dcOf Tryd.prog) 11 Zz.F_spec_GroupTerm := Or.inl ⟨rfl, ⟨⟨Tryd.f11, _, Tryd.func11, rfl, by kernel_rfl, by kernel_rfl, by kernel_rfl, by decide +kernel, by kernel_rfl⟩⟩⟩
theorem ok12 : OkF Tryd.prog (dcOf Tryd.prog) 12 Zz.F_impl_GroupsOk := Or.inl ⟨rfl, ⟨⟨Tryd.f12, _, Tryd.func12, rfl, by kernel_rfl, by kernel_rfl, by kernel_rfl, by decide +kernel, by kernel_rfl⟩⟩⟩
theorem ok13 : OkF Tryd.prog (dcOf Tryd.prog) 13 Zz.F_laws_alive := Or.inl ⟨rfl, ⟨⟨Tryd.f13, _, Tryd.func13, rfl, by kernel_rfl, by kernel_rfl, by kernel_rfl, by decide +kernel, by kernel_rfl⟩⟩⟩
theorem ok14 : OkF Tryd.prog (dcOf Tryd.prog) 14 Zz.F_impl_ValueOf := Or.inl ⟨rfl, ⟨⟨Tryd.f14, _, Tryd.func14, rfl, by kernel_rfl, by kernel_rfl, by kernel_rfl, by decide +kernel, by kernel_rfl⟩⟩⟩
theorem ok15 : OkF Tryd.prog (dcOf Tryd.prog) 15 Zz.F_impl_OnceOk := Or.inl ⟨rfl, ⟨⟨Tryd.f15, _, Tryd.func15, rfl, by kernel_rfl, by kernel_rfl, by kernel_rfl, by decide +kernel, by kernel_rfl⟩⟩⟩
theorem ok16 : OkF Tryd.prog (dcOf Tryd.prog) 16 Zz.F_impl_LettersOf := Or.inl ⟨rfl, ⟨⟨Tryd.f16, _, Tryd.func16, rfl, by kernel_rfl, by kernel_rfl, by kernel_rfl, by decide +kernel, by kernel_rfl⟩⟩⟩
theorem ok28 : OkF Tryd.prog (dcOf Tryd.prog) 28 Zz.F_spec_GroupsOk := Or.inl ⟨rfl, ⟨⟨Tryd.f28, _, Tryd.func28, rfl, by kernel_rfl, by kernel_rfl, by kernel_rfl, by decide +kernel, by kernel_rfl⟩⟩⟩
theorem ok34 : OkF Tryd.prog (dcOf Tryd.prog) 34 Zz.F_spec_l20Open := Or.inl ⟨rfl, ⟨⟨Tryd.f34, _, Tryd.func34, rfl, by kernel_rfl, by kernel_rfl, by kernel_rfl, by decide +kernel, by kernel_rfl⟩⟩⟩
theorem ok35 : OkF Tryd.prog (dcOf Tryd.prog) 35 Zz.F_spec_l20Rd_pick := Or.inl ⟨rfl, ⟨⟨Tryd.f35, _, Tryd.func35, rfl, by kernel_rfl, by kernel_rfl, by kernel_rfl, by decide +kernel, by kernel_rfl⟩⟩⟩
theorem ok36 : OkF Tryd.prog (dcOf Tryd.prog) 36 Zz.F_spec_l20Groups := Or.inl ⟨rfl, ⟨⟨Tryd.f36, _, Tryd.func36, rfl, by kernel_rfl, by kernel_rfl, by kernel_rfl, by decide +kernel, by kernel_rfl⟩⟩⟩
theorem ok37 : OkF Tryd.prog (dcOf Tryd.prog) 37 Zz.F_impl_manyOk := Or.inl ⟨rfl, ⟨⟨Tryd.f37, _, Tryd.func37, rfl, by kernel_rfl, by kernel_rfl, by kernel_rfl, by decide +kernel, by kernel_rfl⟩⟩⟩
theorem ok38 : OkF Tryd.prog (dcOf Tryd.prog) 38 Zz.F_impl_isWithin := Or.inl ⟨rfl, ⟨⟨Tryd.f38, _, Tryd.func38, rfl, by kernel_rfl, by kernel_rfl, by kernel_rfl, by decide +kernel, by kernel_rfl⟩⟩⟩
theorem ok39 : OkF Tryd.prog (dcOf Tryd.prog) 39 Zz.F_impl_OrderOk := Or.inl ⟨rfl, ⟨⟨Tryd.f39, _, Tryd.func39, rfl, by kernel_rfl, by kernel_rfl, by kernel_rfl, by decide +kernel, by kernel_rfl⟩⟩⟩
theorem ok40 : OkF Tryd.prog (dcOf Tryd.prog) 40 Zz.F_impl_TestsOk := Or.inl ⟨rfl, ⟨⟨Tryd.f40, _, Tryd.func40, rfl, by kernel_rfl, by kernel_rfl, by kernel_rfl, by decide +kernel, by kernel_rfl⟩⟩⟩
theorem ok41 : OkF Tryd.prog (dcOf Tryd.prog) 41 Zz.F_impl_TermOk := Or.inl ⟨rfl, ⟨⟨Tryd.f41, _, Tryd.func41, rfl, by kernel_rfl, by kernel_rfl, by kernel_rfl, by decide +kernel, by kernel_rfl⟩⟩⟩
theorem ok42 : OkF Tryd.prog (dcOf Tryd.prog) 42 Zz.F_impl_StateOk := Or.inl ⟨rfl, ⟨⟨Tryd.f42, _, Tryd.func42, rfl, by kernel_rfl, by kernel_rfl, by kernel_rfl, by decide +kernel, by kernel_rfl⟩⟩⟩
theorem ok43 : OkF Tryd.prog (dcOf Tryd.prog) 43 Zz.F_impl_hasState := Or.inl ⟨rfl, ⟨⟨Tryd.f43, _, Tryd.func43, rfl, by kernel_rfl, by kernel_rfl, by kernel_rfl, by decide +kernel, by kernel_rfl⟩⟩⟩
theorem ok44 : OkF Tryd.prog (dcOf Tryd.prog) 44 Zz.F_impl_trueStates := Or.inl ⟨rfl, ⟨⟨Tryd.f44, _, Tryd.func44, rfl, by kernel_rfl, by kernel_rfl, by kernel_rfl, by decide +kernel, by kernel_rfl⟩⟩⟩
theorem ok61 : OkF Tryd.prog (dcOf Tryd.prog) 61 Zz.F_spec_l1In := Or.inl ⟨rfl, ⟨⟨Tryd.f61, _, Tryd.func61, rfl, by kernel_rfl, by kernel_rfl, by kernel_rfl, by decide +kernel, by kernel_rfl⟩⟩⟩
theorem ok64 : OkF Tryd.prog (dcOf Tryd.prog) 64 Zz.F_spec_l20Order := Or.inl ⟨rfl, ⟨⟨Tryd.f64, _, Tryd.func64, rfl, by kernel_rfl, by kernel_rfl, by kernel_rfl, by decide +kernel, by kernel_rfl⟩⟩⟩
theorem ok65 : OkF Tryd.prog (dcOf Tryd.prog) 65 Zz.F_spec_l20Rd_odd := Or.inl ⟨rfl, ⟨⟨Tryd.f65, _, Tryd.func65, rfl, by kernel_rfl, by kernel_rfl, by kernel_rfl, by decide +kernel, by kernel_rfl⟩⟩⟩
theorem ok66 : OkF Tryd.prog (dcOf Tryd.prog) 66 Zz.F_impl_hasTest := Or.inl ⟨rfl, ⟨⟨Tryd.f66, _, Tryd.func66, rfl, by kernel_rfl, by kernel_rfl, by kernel_rfl, by decide +kernel, by kernel_rfl⟩⟩⟩
theorem ok67 : OkF Tryd.prog (dcOf Tryd.prog) 67 Zz.F_impl_partsTaken := Or.inl ⟨rfl, ⟨⟨Tryd.f67, _, Tryd.func67, rfl, by kernel_rfl, by kernel_rfl, by kernel_rfl, by decide +kernel, by kernel_rfl⟩⟩⟩
theorem ok68 : OkF Tryd.prog (dcOf Tryd.prog) 68 Zz.F_impl_markOk := Or.inl ⟨rfl, ⟨⟨Tryd.f68, _, Tryd.func68, rfl, by kernel_rfl, by kernel_rfl, by kernel_rfl, by decide +kernel, by kernel_rfl⟩⟩⟩
theorem ok69 : OkF Tryd.prog (dcOf Tryd.prog) 69 Zz.F_impl_statesOf := Or.inl ⟨rfl, ⟨⟨Tryd.f69, _, Tryd.func69, rfl, by kernel_rfl, by kernel_rfl, by kernel_rfl, by decide +kernel, by kernel_rfl⟩⟩⟩
theorem ok70 : OkF Tryd.prog (dcOf Tryd.prog) 70 Zz.F_impl_foldTerm_uint32 := Or.inl ⟨rfl, ⟨⟨Tryd.f70, _, Tryd.func70, rfl, by kernel_rfl, by kernel_rfl, by kernel_rfl, by decide +kernel, by kernel_rfl⟩⟩⟩
theorem ok71 : OkF Tryd.prog (dcOf Tryd.prog) 71 Zz.F_impl_statesOfPart := Or.inl ⟨rfl, ⟨⟨Tryd.f71, _, Tryd.func71, rfl, by kernel_rfl, by kernel_rfl, by kernel_rfl, by decide +kernel, by kernel_rfl⟩⟩⟩
theorem mixed : Tryd.prog.follows .mixedOrders = true := by kernel_rfl
theorem okAll : ∀ f F, Zz.lf f = some F → OkF Tryd.prog (dcOf Tryd.prog) f F := by
  intro f F h
  unfold Zz.lf at h
  split at h
  · injection h with h; subst h; exact ok3
  · injection h with h; subst h; exact ok8
  · injection h with h; subst h; exact ok9
  · injection h with h; subst h; exact ok10
  · injection h with h; subst h; exact ok11
  · injection h with h; subst h; exact ok12
  · injection h with h; subst h; exact ok13
  · injection h with h; subst h; exact ok14
  · injection h with h; subst h; exact ok15
  · injection h with h; subst h; exact ok16
  · injection h with h; subst h; exact ok28
  · injection h with h; subst h; exact ok34
  · injection h with h; subst h; exact ok35
  · injection h with h; subst h; exact ok36
  · injection h with h; subst h; exact ok37
  · injection h with h; subst h; exact ok38
  · injection h with h; subst h; exact ok39
  · injection h with h; subst h; exact ok40
  · injection h with h; subst h; exact ok41
  · injection h with h; subst h; exact ok42
  · injection h with h; subst h; exact ok43
  · injection h with h; subst h; exact ok44
  · injection h with h; subst h; exact ok61
  · injection h with h; subst h; exact ok64
  · injection h with h; subst h; exact ok65
  · injection h with h; subst h; exact ok66
  · injection h with h; subst h; exact ok67
  · injection h with h; subst h; exact ok68
  · injection h with h; subst h; exact ok69
  · injection h with h; subst h; exact ok70
  · injection h with h; subst h; exact ok71
  · cases h
theorem said {f : Nat} {args : List DV} {r : DV × List DV} (h : call Zz.lf f args = some r) : CallSpec Tryd.prog f args r := call_sound okAll (draw_ok mixed) h
end Go.Proofs.YthadcdlggmahfaaDoor.oks
