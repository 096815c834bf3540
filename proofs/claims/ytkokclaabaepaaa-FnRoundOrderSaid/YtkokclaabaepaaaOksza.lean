/- That the data is what the program says, function by function. No conditions. -/
import Derived.Test.YtkokclaabaepaaaIrza
import Derived.Test.YtkokclaabaepaaaLgD
import Derived.Test.YtkokclaabaepaaaLgEza
import Derived.Test.YtkokclaabaepaaaRows
set_option linter.unusedSectionVars false
set_option linter.unusedVariables false
set_option linter.unusedSimpArgs false
namespace Go.Proofs.Ytkokclaabaepaaa.oks
open Go.Lg Zz
theorem ok3 : OkF Try.prog (dcOf Try.prog) 3 Zz.F_laws_FnRoundAverage := Or.inl ⟨rfl, ⟨⟨Try.f3, _, Try.func3, rfl, by kernel_rfl, by kernel_rfl, by kernel_rfl, by decide +kernel, by kernel_rfl⟩⟩⟩
theorem ok7 : OkF Try.prog (dcOf Try.prog) 7 Zz.F_laws_FnRoundOrder := Or.inl ⟨rfl, ⟨⟨Try.f7, _, Try.func7, rfl, by kernel_rfl, by kernel_rfl, by kernel_rfl, by decide +kernel, by kernel_rfl⟩⟩⟩
theorem ok14 : OkF Try.prog (dcOf Try.prog) 14 Zz.F_spec_DrawRoundAverage := Or.inl ⟨rfl, ⟨⟨Try.f14, _, Try.func14, rfl, by kernel_rfl, by kernel_rfl, by kernel_rfl, by decide +kernel, by kernel_rfl⟩⟩⟩
theorem ok15 : OkF Try.prog (dcOf Try.prog) 15 Zz.F_impl_RoundAverage := Or.inl ⟨rfl, ⟨⟨Try.f15, _, Try.func15, rfl, by kernel_rfl, by kernel_rfl, by kernel_rfl, by decide +kernel, by kernel_rfl⟩⟩⟩
theorem ok16 : OkF Try.prog (dcOf Try.prog) 16 Zz.F_spec_RoundAverage := Or.inl ⟨rfl, ⟨⟨Try.f16, _, Try.func16, rfl, by kernel_rfl, by kernel_rfl, by kernel_rfl, by decide +kernel, by kernel_rfl⟩⟩⟩
theorem ok17 : OkF Try.prog (dcOf Try.prog) 17 Zz.F_laws_alive := Or.inl ⟨rfl, ⟨⟨Try.f17, _, Try.func17, rfl, by kernel_rfl, by kernel_rfl, by kernel_rfl, by decide +kernel, by kernel_rfl⟩⟩⟩
theorem ok18 : OkF Try.prog (dcOf Try.prog) 18 Zz.F_laws_power := Or.inl ⟨rfl, ⟨⟨Try.f18, _, Try.func18, rfl, by kernel_rfl, by kernel_rfl, by kernel_rfl, by decide +kernel, by kernel_rfl⟩⟩⟩
theorem ok19 : OkF Try.prog (dcOf Try.prog) 19 Zz.F_impl_RowAverage := Or.inl ⟨rfl, ⟨⟨Try.f19, _, Try.func19, rfl, by kernel_rfl, by kernel_rfl, by kernel_rfl, by decide +kernel, by kernel_rfl⟩⟩⟩
theorem ok25 : OkF Try.prog (dcOf Try.prog) 25 Zz.F_impl_GroupsOk := Or.inl ⟨rfl, ⟨⟨Try.f25, _, Try.func25, rfl, by kernel_rfl, by kernel_rfl, by kernel_rfl, by decide +kernel, by kernel_rfl⟩⟩⟩
theorem ok51 : OkF Try.prog (dcOf Try.prog) 51 Zz.F_spec_l20Open := Or.inl ⟨rfl, ⟨⟨Try.f51, _, Try.func51, rfl, by kernel_rfl, by kernel_rfl, by kernel_rfl, by decide +kernel, by kernel_rfl⟩⟩⟩
theorem ok52 : OkF Try.prog (dcOf Try.prog) 52 Zz.F_spec_l20Grouped := Or.inl ⟨rfl, ⟨⟨Try.f52, _, Try.func52, rfl, by kernel_rfl, by kernel_rfl, by kernel_rfl, by decide +kernel, by kernel_rfl⟩⟩⟩
theorem ok53 : OkF Try.prog (dcOf Try.prog) 53 Zz.F_spec_l20Rd_pick := Or.inl ⟨rfl, ⟨⟨Try.f53, _, Try.func53, rfl, by kernel_rfl, by kernel_rfl, by kernel_rfl, by decide +kernel, by kernel_rfl⟩⟩⟩
theorem ok54 : OkF Try.prog (dcOf Try.prog) 54 Zz.F_impl_TestsOk := Or.inl ⟨rfl, ⟨⟨Try.f54, _, Try.func54, rfl, by kernel_rfl, by kernel_rfl, by kernel_rfl, by decide +kernel, by kernel_rfl⟩⟩⟩
theorem ok55 : OkF Try.prog (dcOf Try.prog) 55 Zz.F_impl_feeOk := Or.inl ⟨rfl, ⟨⟨Try.f55, _, Try.func55, rfl, by kernel_rfl, by kernel_rfl, by kernel_rfl, by decide +kernel, by kernel_rfl⟩⟩⟩
theorem ok56 : OkF Try.prog (dcOf Try.prog) 56 Zz.F_slices_Backward_int_int := Or.inl ⟨rfl, ⟨⟨Try.f56, _, Try.func56, rfl, by kernel_rfl, by kernel_rfl, by kernel_rfl, by decide +kernel, by kernel_rfl⟩⟩⟩
theorem ok57 : OkF Try.prog (dcOf Try.prog) 57 Zz.F_impl_averageOfRound := Or.inl ⟨rfl, ⟨⟨Try.f57, _, Try.func57, rfl, by kernel_rfl, by kernel_rfl, by kernel_rfl, by decide +kernel, by kernel_rfl⟩⟩⟩
theorem ok58 : OkF Try.prog (dcOf Try.prog) 58 Zz.F_impl_setOf := Or.inl ⟨rfl, ⟨⟨Try.f58, _, Try.func58, rfl, by kernel_rfl, by kernel_rfl, by kernel_rfl, by decide +kernel, by kernel_rfl⟩⟩⟩
theorem ok59 : OkF Try.prog (dcOf Try.prog) 59 Zz.F_spec_TestsOk := Or.inl ⟨rfl, ⟨⟨Try.f59, _, Try.func59, rfl, by kernel_rfl, by kernel_rfl, by kernel_rfl, by decide +kernel, by kernel_rfl⟩⟩⟩
theorem ok60 : OkF Try.prog (dcOf Try.prog) 60 Zz.F_spec_GroupsOk := Or.inl ⟨rfl, ⟨⟨Try.f60, _, Try.func60, rfl, by kernel_rfl, by kernel_rfl, by kernel_rfl, by decide +kernel, by kernel_rfl⟩⟩⟩
theorem ok61 : OkF Try.prog (dcOf Try.prog) 61 Zz.F_spec_l1In := Or.inl ⟨rfl, ⟨⟨Try.f61, _, Try.func61, rfl, by kernel_rfl, by kernel_rfl, by kernel_rfl, by decide +kernel, by kernel_rfl⟩⟩⟩
theorem ok62 : OkF Try.prog (dcOf Try.prog) 62 Zz.F_spec_l1Power := Or.inl ⟨rfl, ⟨⟨Try.f62, _, Try.func62, rfl, by kernel_rfl, by kernel_rfl, by kernel_rfl, by decide +kernel, by kernel_rfl⟩⟩⟩
theorem ok63 : OkF Try.prog (dcOf Try.prog) 63 Zz.F_impl_OrderOk := Or.inl ⟨rfl, ⟨⟨Try.f63, _, Try.func63, rfl, by kernel_rfl, by kernel_rfl, by kernel_rfl, by decide +kernel, by kernel_rfl⟩⟩⟩
theorem ok64 : OkF Try.prog (dcOf Try.prog) 64 Zz.F_impl_rowOk := Or.inl ⟨rfl, ⟨⟨Try.f64, _, Try.func64, rfl, by kernel_rfl, by kernel_rfl, by kernel_rfl, by decide +kernel, by kernel_rfl⟩⟩⟩
theorem ok65 : OkF Try.prog (dcOf Try.prog) 65 Zz.F_impl_wholeOf := Or.inl ⟨rfl, ⟨⟨Try.f65, _, Try.func65, rfl, by kernel_rfl, by kernel_rfl, by kernel_rfl, by decide +kernel, by kernel_rfl⟩⟩⟩
theorem ok66 : OkF Try.prog (dcOf Try.prog) 66 Zz.F_impl_endChance := Or.inl ⟨rfl, ⟨⟨Try.f66, _, Try.func66, rfl, by kernel_rfl, by kernel_rfl, by kernel_rfl, by decide +kernel, by kernel_rfl⟩⟩⟩
theorem ok67 : OkF Try.prog (dcOf Try.prog) 67 Zz.F_spec_l20Tests := Or.inl ⟨rfl, ⟨⟨Try.f67, _, Try.func67, rfl, by kernel_rfl, by kernel_rfl, by kernel_rfl, by decide +kernel, by kernel_rfl⟩⟩⟩
theorem ok73 : OkF Try.prog (dcOf Try.prog) 73 Zz.F_spec_l20Groups := Or.inl ⟨rfl, ⟨⟨Try.f73, _, Try.func73, rfl, by kernel_rfl, by kernel_rfl, by kernel_rfl, by decide +kernel, by kernel_rfl⟩⟩⟩
theorem ok74 : OkF Try.prog (dcOf Try.prog) 74 Zz.F_impl_manyOk := Or.inl ⟨rfl, ⟨⟨Try.f74, _, Try.func74, rfl, by kernel_rfl, by kernel_rfl, by kernel_rfl, by decide +kernel, by kernel_rfl⟩⟩⟩
theorem ok75 : OkF Try.prog (dcOf Try.prog) 75 Zz.F_impl_isWithin := Or.inl ⟨rfl, ⟨⟨Try.f75, _, Try.func75, rfl, by kernel_rfl, by kernel_rfl, by kernel_rfl, by decide +kernel, by kernel_rfl⟩⟩⟩
theorem ok92 : OkF Try.prog (dcOf Try.prog) 92 Zz.F_slices_Backward_int_int_1 := Or.inl ⟨rfl, ⟨⟨Try.f92, _, Try.func92, rfl, by kernel_rfl, by kernel_rfl, by kernel_rfl, by decide +kernel, by kernel_rfl⟩⟩⟩
theorem ok93 : OkF Try.prog (dcOf Try.prog) 93 Zz.F_impl_hasTest := Or.inl ⟨rfl, ⟨⟨Try.f93, _, Try.func93, rfl, by kernel_rfl, by kernel_rfl, by kernel_rfl, by decide +kernel, by kernel_rfl⟩⟩⟩
theorem ok94 : OkF Try.prog (dcOf Try.prog) 94 Zz.F_spec_l20Rd_odd := Or.inl ⟨rfl, ⟨⟨Try.f94, _, Try.func94, rfl, by kernel_rfl, by kernel_rfl, by kernel_rfl, by decide +kernel, by kernel_rfl⟩⟩⟩
theorem ok97 : OkF Try.prog (dcOf Try.prog) 97 Zz.F_spec_l20Order := Or.inl ⟨rfl, ⟨⟨Try.f97, _, Try.func97, rfl, by kernel_rfl, by kernel_rfl, by kernel_rfl, by decide +kernel, by kernel_rfl⟩⟩⟩
theorem mixed : Try.prog.follows .mixedOrders = true := by kernel_rfl
theorem okAll : ∀ f F, Zz.lf f = some F → OkF Try.prog (dcOf Try.prog) f F := by
  intro f F h
  unfold Zz.lf at h
  split at h
  · injection h with h; subst h; exact ok3
  · injection h with h; subst h; exact ok7
  · injection h with h; subst h; exact ok14
  · injection h with h; subst h; exact ok15
  · injection h with h; subst h; exact ok16
  · injection h with h; subst h; exact ok17
  · injection h with h; subst h; exact ok18
  · injection h with h; subst h; exact ok19
  · injection h with h; subst h; exact ok25
  · injection h with h; subst h; exact ok51
  · injection h with h; subst h; exact ok52
  · injection h with h; subst h; exact ok53
  · injection h with h; subst h; exact ok54
  · injection h with h; subst h; exact ok55
  · injection h with h; subst h; exact ok56
  · injection h with h; subst h; exact ok57
  · injection h with h; subst h; exact ok58
  · injection h with h; subst h; exact ok59
  · injection h with h; subst h; exact ok60
  · injection h with h; subst h; exact ok61
  · injection h with h; subst h; exact ok62
  · injection h with h; subst h; exact ok63
  · injection h with h; subst h; exact ok64
  · injection h with h; subst h; exact ok65
  · injection h with h; subst h; exact ok66
  · injection h with h; subst h; exact ok67
  · injection h with h; subst h; exact ok73
  · injection h with h; subst h; exact ok74
  · injection h with h; subst h; exact ok75
  · injection h with h; subst h; exact ok92
  · injection h with h; subst h; exact ok93
  · injection h with h; subst h; exact ok94
  · injection h with h; subst h; exact ok97
  · cases h
theorem said {f : Nat} {args : List DV} {r : DV × List DV} (h : call Zz.lf f args = some r) : CallSpec Try.prog f args r := call_sound okAll (draw_ok mixed) back_ok h
end Go.Proofs.Ytkokclaabaepaaa.oks
