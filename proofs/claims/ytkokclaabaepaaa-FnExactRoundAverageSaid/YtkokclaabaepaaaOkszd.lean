/- That the data is what the program says, function by function. No conditions. -/
import Derived.Test.YtkokclaabaepaaaIrzd
import Derived.Test.YtkokclaabaepaaaLgD
import Derived.Test.YtkokclaabaepaaaLgEzd
import Derived.Test.YtkokclaabaepaaaRows
set_option linter.unusedSectionVars false
set_option linter.unusedVariables false
set_option linter.unusedSimpArgs false
namespace Go.Proofs.Ytkokclaabaepaaa.oks
open Go.Lg Zz
theorem ok8 : OkF Try.prog (dcOf Try.prog) 8 Zz.F_laws_FnExactRoundAverage := Or.inl ⟨rfl, ⟨⟨Try.f8, _, Try.func8, rfl, by kernel_rfl, by kernel_rfl, by kernel_rfl, by decide +kernel, by kernel_rfl⟩⟩⟩
theorem ok15 : OkF Try.prog (dcOf Try.prog) 15 Zz.F_impl_RoundAverage := Or.inl ⟨rfl, ⟨⟨Try.f15, _, Try.func15, rfl, by kernel_rfl, by kernel_rfl, by kernel_rfl, by decide +kernel, by kernel_rfl⟩⟩⟩
theorem ok16 : OkF Try.prog (dcOf Try.prog) 16 Zz.F_spec_RoundAverage := Or.inl ⟨rfl, ⟨⟨Try.f16, _, Try.func16, rfl, by kernel_rfl, by kernel_rfl, by kernel_rfl, by decide +kernel, by kernel_rfl⟩⟩⟩
theorem ok25 : OkF Try.prog (dcOf Try.prog) 25 Zz.F_impl_GroupsOk := Or.inl ⟨rfl, ⟨⟨Try.f25, _, Try.func25, rfl, by kernel_rfl, by kernel_rfl, by kernel_rfl, by decide +kernel, by kernel_rfl⟩⟩⟩
theorem ok30 : OkF Try.prog (dcOf Try.prog) 30 Zz.F_laws_szTestS := Or.inl ⟨rfl, ⟨⟨Try.f30, _, Try.func30, rfl, by kernel_rfl, by kernel_rfl, by kernel_rfl, by decide +kernel, by kernel_rfl⟩⟩⟩
theorem ok31 : OkF Try.prog (dcOf Try.prog) 31 Zz.F_laws_szIntSS := Or.inl ⟨rfl, ⟨⟨Try.f31, _, Try.func31, rfl, by kernel_rfl, by kernel_rfl, by kernel_rfl, by decide +kernel, by kernel_rfl⟩⟩⟩
theorem ok32 : OkF Try.prog (dcOf Try.prog) 32 Zz.F_laws_toTestS := Or.inl ⟨rfl, ⟨⟨Try.f32, _, Try.func32, rfl, by kernel_rfl, by kernel_rfl, by kernel_rfl, by decide +kernel, by kernel_rfl⟩⟩⟩
theorem ok33 : OkF Try.prog (dcOf Try.prog) 33 Zz.F_laws_toIntSS := Or.inl ⟨rfl, ⟨⟨Try.f33, _, Try.func33, rfl, by kernel_rfl, by kernel_rfl, by kernel_rfl, by decide +kernel, by kernel_rfl⟩⟩⟩
theorem ok34 : OkF Try.prog (dcOf Try.prog) 34 Zz.F_laws_eqTestS := Or.inl ⟨rfl, ⟨⟨Try.f34, _, Try.func34, rfl, by kernel_rfl, by kernel_rfl, by kernel_rfl, by decide +kernel, by kernel_rfl⟩⟩⟩
theorem ok35 : OkF Try.prog (dcOf Try.prog) 35 Zz.F_laws_eqIntSS := Or.inl ⟨rfl, ⟨⟨Try.f35, _, Try.func35, rfl, by kernel_rfl, by kernel_rfl, by kernel_rfl, by decide +kernel, by kernel_rfl⟩⟩⟩
theorem ok48 : OkF Try.prog (dcOf Try.prog) 48 Zz.F_laws_eqIntS := Or.inl ⟨rfl, ⟨⟨Try.f48, _, Try.func48, rfl, by kernel_rfl, by kernel_rfl, by kernel_rfl, by decide +kernel, by kernel_rfl⟩⟩⟩
theorem ok54 : OkF Try.prog (dcOf Try.prog) 54 Zz.F_impl_TestsOk := Or.inl ⟨rfl, ⟨⟨Try.f54, _, Try.func54, rfl, by kernel_rfl, by kernel_rfl, by kernel_rfl, by decide +kernel, by kernel_rfl⟩⟩⟩
theorem ok55 : OkF Try.prog (dcOf Try.prog) 55 Zz.F_impl_feeOk := Or.inl ⟨rfl, ⟨⟨Try.f55, _, Try.func55, rfl, by kernel_rfl, by kernel_rfl, by kernel_rfl, by decide +kernel, by kernel_rfl⟩⟩⟩
theorem ok56 : OkF Try.prog (dcOf Try.prog) 56 Zz.F_slices_Backward_int_int := Or.inl ⟨rfl, ⟨⟨Try.f56, _, Try.func56, rfl, by kernel_rfl, by kernel_rfl, by kernel_rfl, by decide +kernel, by kernel_rfl⟩⟩⟩
theorem ok57 : OkF Try.prog (dcOf Try.prog) 57 Zz.F_impl_averageOfRound := Or.inl ⟨rfl, ⟨⟨Try.f57, _, Try.func57, rfl, by kernel_rfl, by kernel_rfl, by kernel_rfl, by decide +kernel, by kernel_rfl⟩⟩⟩
theorem ok58 : OkF Try.prog (dcOf Try.prog) 58 Zz.F_impl_setOf := Or.inl ⟨rfl, ⟨⟨Try.f58, _, Try.func58, rfl, by kernel_rfl, by kernel_rfl, by kernel_rfl, by decide +kernel, by kernel_rfl⟩⟩⟩
theorem ok59 : OkF Try.prog (dcOf Try.prog) 59 Zz.F_spec_TestsOk := Or.inl ⟨rfl, ⟨⟨Try.f59, _, Try.func59, rfl, by kernel_rfl, by kernel_rfl, by kernel_rfl, by decide +kernel, by kernel_rfl⟩⟩⟩
theorem ok60 : OkF Try.prog (dcOf Try.prog) 60 Zz.F_spec_GroupsOk := Or.inl ⟨rfl, ⟨⟨Try.f60, _, Try.func60, rfl, by kernel_rfl, by kernel_rfl, by kernel_rfl, by decide +kernel, by kernel_rfl⟩⟩⟩
theorem ok61 : OkF Try.prog (dcOf Try.prog) 61 Zz.F_spec_l1In := Or.inl ⟨rfl, ⟨⟨Try.f61, _, Try.func61, rfl, by kernel_rfl, by kernel_rfl, by kernel_rfl, by decide +kernel, by kernel_rfl⟩⟩⟩
theorem ok62 : OkF Try.prog (dcOf Try.prog) 62 Zz.F_spec_l1Power := Or.inl ⟨rfl, ⟨⟨Try.f62, _, Try.func62, rfl, by kernel_rfl, by kernel_rfl, by kernel_rfl, by decide +kernel, by kernel_rfl⟩⟩⟩
theorem ok63 : OkF Try.prog (dcOf Try.prog) 63 Zz.F_impl_OrderOk := Or.inl ⟨rfl, ⟨⟨Try.f63, _, Try.func63, rfl, by kernel_rfl, by kernel_rfl, by kernel_rfl, by decide +kernel, by kernel_rfl⟩⟩⟩
theorem ok65 : OkF Try.prog (dcOf Try.prog) 65 Zz.F_impl_wholeOf := Or.inl ⟨rfl, ⟨⟨Try.f65, _, Try.func65, rfl, by kernel_rfl, by kernel_rfl, by kernel_rfl, by decide +kernel, by kernel_rfl⟩⟩⟩
theorem ok74 : OkF Try.prog (dcOf Try.prog) 74 Zz.F_impl_manyOk := Or.inl ⟨rfl, ⟨⟨Try.f74, _, Try.func74, rfl, by kernel_rfl, by kernel_rfl, by kernel_rfl, by decide +kernel, by kernel_rfl⟩⟩⟩
theorem ok75 : OkF Try.prog (dcOf Try.prog) 75 Zz.F_impl_isWithin := Or.inl ⟨rfl, ⟨⟨Try.f75, _, Try.func75, rfl, by kernel_rfl, by kernel_rfl, by kernel_rfl, by decide +kernel, by kernel_rfl⟩⟩⟩
theorem ok81 : OkF Try.prog (dcOf Try.prog) 81 Zz.F_laws_szIntS := Or.inl ⟨rfl, ⟨⟨Try.f81, _, Try.func81, rfl, by kernel_rfl, by kernel_rfl, by kernel_rfl, by decide +kernel, by kernel_rfl⟩⟩⟩
theorem ok82 : OkF Try.prog (dcOf Try.prog) 82 Zz.F_laws_toTest := Or.inl ⟨rfl, ⟨⟨Try.f82, _, Try.func82, rfl, by kernel_rfl, by kernel_rfl, by kernel_rfl, by decide +kernel, by kernel_rfl⟩⟩⟩
theorem ok83 : OkF Try.prog (dcOf Try.prog) 83 Zz.F_laws_toIntS := Or.inl ⟨rfl, ⟨⟨Try.f83, _, Try.func83, rfl, by kernel_rfl, by kernel_rfl, by kernel_rfl, by decide +kernel, by kernel_rfl⟩⟩⟩
theorem ok84 : OkF Try.prog (dcOf Try.prog) 84 Zz.F_laws_eqTest := Or.inl ⟨rfl, ⟨⟨Try.f84, _, Try.func84, rfl, by kernel_rfl, by kernel_rfl, by kernel_rfl, by decide +kernel, by kernel_rfl⟩⟩⟩
theorem ok92 : OkF Try.prog (dcOf Try.prog) 92 Zz.F_slices_Backward_int_int_1 := Or.inl ⟨rfl, ⟨⟨Try.f92, _, Try.func92, rfl, by kernel_rfl, by kernel_rfl, by kernel_rfl, by decide +kernel, by kernel_rfl⟩⟩⟩
theorem ok93 : OkF Try.prog (dcOf Try.prog) 93 Zz.F_impl_hasTest := Or.inl ⟨rfl, ⟨⟨Try.f93, _, Try.func93, rfl, by kernel_rfl, by kernel_rfl, by kernel_rfl, by decide +kernel, by kernel_rfl⟩⟩⟩
theorem mixed : Try.prog.follows .mixedOrders = true := by kernel_rfl
theorem okAll : ∀ f F, Zz.lf f = some F → OkF Try.prog (dcOf Try.prog) f F := by
  intro f F h
  unfold Zz.lf at h
  split at h
  · injection h with h; subst h; exact ok8
  · injection h with h; subst h; exact ok15
  · injection h with h; subst h; exact ok16
  · injection h with h; subst h; exact ok25
  · injection h with h; subst h; exact ok30
  · injection h with h; subst h; exact ok31
  · injection h with h; subst h; exact ok32
  · injection h with h; subst h; exact ok33
  · injection h with h; subst h; exact ok34
  · injection h with h; subst h; exact ok35
  · injection h with h; subst h; exact ok48
  · injection h with h; subst h; exact ok54
  · injection h with h; subst h; exact ok55
  · injection h with h; subst h; exact ok56
  · injection h with h; subst h; exact ok57
  · injection h with h; subst h; exact ok58
  · injection h with h; subst h; exact ok59
  · injection h with h; subst h; exact ok60
  · injection h with h; subst h; exact ok61
  · injection h with h; subst h; exact ok62
  · injection h with h; subst h; exact ok63
  · injection h with h; subst h; exact ok65
  · injection h with h; subst h; exact ok74
  · injection h with h; subst h; exact ok75
  · injection h with h; subst h; exact ok81
  · injection h with h; subst h; exact ok82
  · injection h with h; subst h; exact ok83
  · injection h with h; subst h; exact ok84
  · injection h with h; subst h; exact ok92
  · injection h with h; subst h; exact ok93
  · cases h
theorem said {f : Nat} {args : List DV} {r : DV × List DV} (h : call Zz.lf f args = some r) : CallSpec Try.prog f args r := call_sound okAll (draw_ok mixed) back_ok h
end Go.Proofs.Ytkokclaabaepaaa.oks
