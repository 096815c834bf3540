/- That the data is what the program says, function by function. No conditions. -/
import Derived.Test.YthadcdlggmahfaaIrzk
import Derived.Test.YthadcdlggmahfaaLgD
import Derived.Test.YthadcdlggmahfaaRows
set_option linter.unusedSectionVars false
set_option linter.unusedVariables false
set_option linter.unusedSimpArgs false
namespace Go.Proofs.Ythadcdlggmahfaa.oks
open Go.Lg Zz
def insRen : Go.Shelf.Ren := ⟨fun x => if x = 21 then 49 else if x = 27 then 55 else if x = 28 then 56 else if x = 35 then 59 else if x = 39 then 62 else x, fun x => if x = 0 then 0 else if x = 3 then 3 else if x = 4 then 4 else if x = 22 then 27 else x, fun x => x⟩
theorem insLays : Lays2.n21 Try.prog insRen := { mixed := by kernel_rfl, f21 := by kernel_rfl, f27 := by kernel_rfl, f28 := by kernel_rfl, f35 := by kernel_rfl, f39 := by kernel_rfl, t0 := Try.underlying0, a0 := Try.isAgg0, z0 := Try.sizeOf0, v0 := Try.zeroValue0, t3 := Try.underlying3, a3 := Try.isAgg3, z3 := Try.sizeOf3, v3 := Try.zeroValue3, t4 := Try.underlying4, a4 := Try.isAgg4, z4 := Try.sizeOf4, v4 := Try.zeroValue4, t22 := Try.underlying27, a22 := Try.isAgg27, z22 := Try.sizeOf27, v22 := Try.zeroValue27, i3 := by kernel_rfl }
theorem ok4 : OkF Try.prog (dcOf Try.prog) 4 Zz.F_laws_FnGroupCost := Or.inl ⟨rfl, ⟨⟨Try.f4, _, Try.func4, rfl, by kernel_rfl, by kernel_rfl, by kernel_rfl, by decide +kernel, by kernel_rfl⟩⟩⟩
theorem ok7 : OkF Try.prog (dcOf Try.prog) 7 Zz.F_impl_GroupsOk := Or.inl ⟨rfl, ⟨⟨Try.f7, _, Try.func7, rfl, by kernel_rfl, by kernel_rfl, by kernel_rfl, by decide +kernel, by kernel_rfl⟩⟩⟩
theorem ok8 : OkF Try.prog (dcOf Try.prog) 8 Zz.F_spec_GroupsOk := Or.inl ⟨rfl, ⟨⟨Try.f8, _, Try.func8, rfl, by kernel_rfl, by kernel_rfl, by kernel_rfl, by decide +kernel, by kernel_rfl⟩⟩⟩
theorem ok9 : OkF Try.prog (dcOf Try.prog) 9 Zz.F_laws_alive := Or.inl ⟨rfl, ⟨⟨Try.f9, _, Try.func9, rfl, by kernel_rfl, by kernel_rfl, by kernel_rfl, by decide +kernel, by kernel_rfl⟩⟩⟩
theorem ok10 : OkF Try.prog (dcOf Try.prog) 10 Zz.F_spec_DrawGroupCost := Or.inl ⟨rfl, ⟨⟨Try.f10, _, Try.func10, rfl, by kernel_rfl, by kernel_rfl, by kernel_rfl, by decide +kernel, by kernel_rfl⟩⟩⟩
theorem ok11 : OkF Try.prog (dcOf Try.prog) 11 Zz.F_impl_GroupCost := Or.inl ⟨rfl, ⟨⟨Try.f11, _, Try.func11, rfl, by kernel_rfl, by kernel_rfl, by kernel_rfl, by decide +kernel, by kernel_rfl⟩⟩⟩
theorem ok12 : OkF Try.prog (dcOf Try.prog) 12 Zz.F_spec_GroupCost := Or.inl ⟨rfl, ⟨⟨Try.f12, _, Try.func12, rfl, by kernel_rfl, by kernel_rfl, by kernel_rfl, by decide +kernel, by kernel_rfl⟩⟩⟩
theorem ok13 : OkF Try.prog (dcOf Try.prog) 13 Zz.F_impl_RowAverage := Or.inl ⟨rfl, ⟨⟨Try.f13, _, Try.func13, rfl, by kernel_rfl, by kernel_rfl, by kernel_rfl, by decide +kernel, by kernel_rfl⟩⟩⟩
theorem ok14 : OkF Try.prog (dcOf Try.prog) 14 Zz.F_impl_RatioOrder := Or.inl ⟨rfl, ⟨⟨Try.f14, _, Try.func14, rfl, by kernel_rfl, by kernel_rfl, by kernel_rfl, by decide +kernel, by kernel_rfl⟩⟩⟩
theorem ok15 : OkF Try.prog (dcOf Try.prog) 15 Zz.F_laws_power := Or.inl ⟨rfl, ⟨⟨Try.f15, _, Try.func15, rfl, by kernel_rfl, by kernel_rfl, by kernel_rfl, by decide +kernel, by kernel_rfl⟩⟩⟩
theorem ok21 : OkF Try.prog (dcOf Try.prog) 21 Zz.F_spec_l20Open := Or.inl ⟨rfl, ⟨⟨Try.f21, _, Try.func21, rfl, by kernel_rfl, by kernel_rfl, by kernel_rfl, by decide +kernel, by kernel_rfl⟩⟩⟩
theorem ok22 : OkF Try.prog (dcOf Try.prog) 22 Zz.F_spec_l20Rd_pick := Or.inl ⟨rfl, ⟨⟨Try.f22, _, Try.func22, rfl, by kernel_rfl, by kernel_rfl, by kernel_rfl, by decide +kernel, by kernel_rfl⟩⟩⟩
theorem ok23 : OkF Try.prog (dcOf Try.prog) 23 Zz.F_spec_l20Groups := Or.inl ⟨rfl, ⟨⟨Try.f23, _, Try.func23, rfl, by kernel_rfl, by kernel_rfl, by kernel_rfl, by decide +kernel, by kernel_rfl⟩⟩⟩
theorem ok24 : OkF Try.prog (dcOf Try.prog) 24 Zz.F_impl_manyOk := Or.inl ⟨rfl, ⟨⟨Try.f24, _, Try.func24, rfl, by kernel_rfl, by kernel_rfl, by kernel_rfl, by decide +kernel, by kernel_rfl⟩⟩⟩
theorem ok25 : OkF Try.prog (dcOf Try.prog) 25 Zz.F_impl_isWithin := Or.inl ⟨rfl, ⟨⟨Try.f25, _, Try.func25, rfl, by kernel_rfl, by kernel_rfl, by kernel_rfl, by decide +kernel, by kernel_rfl⟩⟩⟩
theorem ok26 : OkF Try.prog (dcOf Try.prog) 26 Zz.F_impl_OrderOk := Or.inl ⟨rfl, ⟨⟨Try.f26, _, Try.func26, rfl, by kernel_rfl, by kernel_rfl, by kernel_rfl, by decide +kernel, by kernel_rfl⟩⟩⟩
theorem ok27 : OkF Try.prog (dcOf Try.prog) 27 Zz.F_spec_l1In := Or.inl ⟨rfl, ⟨⟨Try.f27, _, Try.func27, rfl, by kernel_rfl, by kernel_rfl, by kernel_rfl, by decide +kernel, by kernel_rfl⟩⟩⟩
theorem ok28 : OkF Try.prog (dcOf Try.prog) 28 Zz.F_impl_TestsOk := Or.inl ⟨rfl, ⟨⟨Try.f28, _, Try.func28, rfl, by kernel_rfl, by kernel_rfl, by kernel_rfl, by decide +kernel, by kernel_rfl⟩⟩⟩
theorem ok29 : OkF Try.prog (dcOf Try.prog) 29 Zz.F_spec_l20Grouped := Or.inl ⟨rfl, ⟨⟨Try.f29, _, Try.func29, rfl, by kernel_rfl, by kernel_rfl, by kernel_rfl, by decide +kernel, by kernel_rfl⟩⟩⟩
theorem ok30 : OkF Try.prog (dcOf Try.prog) 30 Zz.F_impl_groupOf := Or.inl ⟨rfl, ⟨⟨Try.f30, _, Try.func30, rfl, by kernel_rfl, by kernel_rfl, by kernel_rfl, by decide +kernel, by kernel_rfl⟩⟩⟩
theorem ok31 : OkF Try.prog (dcOf Try.prog) 31 Zz.F_spec_TestsOk := Or.inl ⟨rfl, ⟨⟨Try.f31, _, Try.func31, rfl, by kernel_rfl, by kernel_rfl, by kernel_rfl, by decide +kernel, by kernel_rfl⟩⟩⟩
theorem ok32 : OkF Try.prog (dcOf Try.prog) 32 Zz.F_spec_l7Cost := Or.inl ⟨rfl, ⟨⟨Try.f32, _, Try.func32, rfl, by kernel_rfl, by kernel_rfl, by kernel_rfl, by decide +kernel, by kernel_rfl⟩⟩⟩
theorem ok33 : OkF Try.prog (dcOf Try.prog) 33 Zz.F_spec_l7Inside := Or.inl ⟨rfl, ⟨⟨Try.f33, _, Try.func33, rfl, by kernel_rfl, by kernel_rfl, by kernel_rfl, by decide +kernel, by kernel_rfl⟩⟩⟩
theorem ok34 : OkF Try.prog (dcOf Try.prog) 34 Zz.F_impl_rowOk := Or.inl ⟨rfl, ⟨⟨Try.f34, _, Try.func34, rfl, by kernel_rfl, by kernel_rfl, by kernel_rfl, by decide +kernel, by kernel_rfl⟩⟩⟩
theorem ok35 : OkF Try.prog (dcOf Try.prog) 35 Zz.F_impl_wholeOf := Or.inl ⟨rfl, ⟨⟨Try.f35, _, Try.func35, rfl, by kernel_rfl, by kernel_rfl, by kernel_rfl, by decide +kernel, by kernel_rfl⟩⟩⟩
theorem ok36 : OkF Try.prog (dcOf Try.prog) 36 Zz.F_impl_endChance := Or.inl ⟨rfl, ⟨⟨Try.f36, _, Try.func36, rfl, by kernel_rfl, by kernel_rfl, by kernel_rfl, by decide +kernel, by kernel_rfl⟩⟩⟩
theorem ok37 : OkF Try.prog (dcOf Try.prog) 37 Zz.F_impl_RatioOrder_1 := Or.inl ⟨rfl, ⟨⟨Try.f37, _, Try.func37, rfl, by kernel_rfl, by kernel_rfl, by kernel_rfl, by decide +kernel, by kernel_rfl⟩⟩⟩
theorem ok38 : OkF Try.prog (dcOf Try.prog) 38 Zz.F_impl_ratioOf := Or.inl ⟨rfl, ⟨⟨Try.f38, _, Try.func38, rfl, by kernel_rfl, by kernel_rfl, by kernel_rfl, by decide +kernel, by kernel_rfl⟩⟩⟩
theorem ok39 : OkF Try.prog (dcOf Try.prog) 39 Zz.F_impl_ratio_isLess := Or.inl ⟨rfl, ⟨⟨Try.f39, _, Try.func39, rfl, by kernel_rfl, by kernel_rfl, by kernel_rfl, by decide +kernel, by kernel_rfl⟩⟩⟩
theorem ok40 : OkF Try.prog (dcOf Try.prog) 40 Zz.F_impl_inserted_int := Or.inl ⟨rfl, ⟨⟨Try.f40, _, Try.func40, rfl, by kernel_rfl, by kernel_rfl, by kernel_rfl, by decide +kernel, by kernel_rfl⟩⟩⟩
theorem ok42 : OkF Try.prog (dcOf Try.prog) 42 Zz.F_spec_l20Order := Or.inl ⟨rfl, ⟨⟨Try.f42, _, Try.func42, rfl, by kernel_rfl, by kernel_rfl, by kernel_rfl, by decide +kernel, by kernel_rfl⟩⟩⟩
theorem ok43 : OkF Try.prog (dcOf Try.prog) 43 Zz.F_spec_l20Rd_odd := Or.inl ⟨rfl, ⟨⟨Try.f43, _, Try.func43, rfl, by kernel_rfl, by kernel_rfl, by kernel_rfl, by decide +kernel, by kernel_rfl⟩⟩⟩
theorem ok44 : OkF Try.prog (dcOf Try.prog) 44 Zz.F_impl_hasTest := Or.inl ⟨rfl, ⟨⟨Try.f44, _, Try.func44, rfl, by kernel_rfl, by kernel_rfl, by kernel_rfl, by decide +kernel, by kernel_rfl⟩⟩⟩
theorem ok45 : OkF Try.prog (dcOf Try.prog) 45 Zz.F_spec_l20Tests := Or.inl ⟨rfl, ⟨⟨Try.f45, _, Try.func45, rfl, by kernel_rfl, by kernel_rfl, by kernel_rfl, by decide +kernel, by kernel_rfl⟩⟩⟩
theorem ok46 : OkF Try.prog (dcOf Try.prog) 46 Zz.F_slices_Contains_int_int := Or.inl ⟨rfl, ⟨⟨Try.f46, _, Try.func46, rfl, by kernel_rfl, by kernel_rfl, by kernel_rfl, by decide +kernel, by kernel_rfl⟩⟩⟩
theorem ok47 : OkF Try.prog (dcOf Try.prog) 47 Zz.F_impl_WeightOf := Or.inl ⟨rfl, ⟨⟨Try.f47, _, Try.func47, rfl, by kernel_rfl, by kernel_rfl, by kernel_rfl, by decide +kernel, by kernel_rfl⟩⟩⟩
theorem ok48 : OkF Try.prog (dcOf Try.prog) 48 Zz.F_spec_l1Power := Or.inl ⟨rfl, ⟨⟨Try.f48, _, Try.func48, rfl, by kernel_rfl, by kernel_rfl, by kernel_rfl, by decide +kernel, by kernel_rfl⟩⟩⟩
set_option maxRecDepth 100000 in
theorem ok49 : OkF Try.prog (dcOf Try.prog) 49 Zz.F_slices_Insert_int_int := Or.inr ⟨insP, rfl, ins_sound insLays (by kernel_rfl)⟩
theorem ok52 : OkF Try.prog (dcOf Try.prog) 52 Zz.F_slices_Index_int_int := Or.inl ⟨rfl, ⟨⟨Try.f52, _, Try.func52, rfl, by kernel_rfl, by kernel_rfl, by kernel_rfl, by decide +kernel, by kernel_rfl⟩⟩⟩
theorem ok53 : OkF Try.prog (dcOf Try.prog) 53 Zz.F_impl_StateOk := Or.inl ⟨rfl, ⟨⟨Try.f53, _, Try.func53, rfl, by kernel_rfl, by kernel_rfl, by kernel_rfl, by decide +kernel, by kernel_rfl⟩⟩⟩
theorem ok54 : OkF Try.prog (dcOf Try.prog) 54 Zz.F_impl_outcomeIn := Or.inl ⟨rfl, ⟨⟨Try.f54, _, Try.func54, rfl, by kernel_rfl, by kernel_rfl, by kernel_rfl, by decide +kernel, by kernel_rfl⟩⟩⟩
theorem ok56 : OkF Try.prog (dcOf Try.prog) 56 Zz.F_slices_rotateRight_int := Or.inl ⟨rfl, ⟨⟨Try.f56, _, Try.func56, rfl, by kernel_rfl, by kernel_rfl, by kernel_rfl, by decide +kernel, by kernel_rfl⟩⟩⟩
theorem ok58 : OkF Try.prog (dcOf Try.prog) 58 Zz.F_impl_statesOf := Or.inl ⟨rfl, ⟨⟨Try.f58, _, Try.func58, rfl, by kernel_rfl, by kernel_rfl, by kernel_rfl, by decide +kernel, by kernel_rfl⟩⟩⟩
theorem ok59 : OkF Try.prog (dcOf Try.prog) 59 Zz.F_slices_rotateLeft_int := Or.inl ⟨rfl, ⟨⟨Try.f59, _, Try.func59, rfl, by kernel_rfl, by kernel_rfl, by kernel_rfl, by decide +kernel, by kernel_rfl⟩⟩⟩
theorem ok62 : OkF Try.prog (dcOf Try.prog) 62 Zz.F_slices_Reverse_int_int := Or.inl ⟨rfl, ⟨⟨Try.f62, _, Try.func62, rfl, by kernel_rfl, by kernel_rfl, by kernel_rfl, by decide +kernel, by kernel_rfl⟩⟩⟩
theorem mixed : Try.prog.follows .mixedOrders = true := by kernel_rfl
theorem okAll : ∀ f F, Zz.lf f = some F → OkF Try.prog (dcOf Try.prog) f F := by
  intro f F h
  unfold Zz.lf at h
  split at h
  · injection h with h; subst h; exact ok4
  · injection h with h; subst h; exact ok7
  · injection h with h; subst h; exact ok8
  · injection h with h; subst h; exact ok9
  · injection h with h; subst h; exact ok10
  · injection h with h; subst h; exact ok11
  · injection h with h; subst h; exact ok12
  · injection h with h; subst h; exact ok13
  · injection h with h; subst h; exact ok14
  · injection h with h; subst h; exact ok15
  · injection h with h; subst h; exact ok21
  · injection h with h; subst h; exact ok22
  · injection h with h; subst h; exact ok23
  · injection h with h; subst h; exact ok24
  · injection h with h; subst h; exact ok25
  · injection h with h; subst h; exact ok26
  · injection h with h; subst h; exact ok27
  · injection h with h; subst h; exact ok28
  · injection h with h; subst h; exact ok29
  · injection h with h; subst h; exact ok30
  · injection h with h; subst h; exact ok31
  · injection h with h; subst h; exact ok32
  · injection h with h; subst h; exact ok33
  · injection h with h; subst h; exact ok34
  · injection h with h; subst h; exact ok35
  · injection h with h; subst h; exact ok36
  · injection h with h; subst h; exact ok37
  · injection h with h; subst h; exact ok38
  · injection h with h; subst h; exact ok39
  · injection h with h; subst h; exact ok40
  · injection h with h; subst h; exact ok42
  · injection h with h; subst h; exact ok43
  · injection h with h; subst h; exact ok44
  · injection h with h; subst h; exact ok45
  · injection h with h; subst h; exact ok46
  · injection h with h; subst h; exact ok47
  · injection h with h; subst h; exact ok48
  · injection h with h; subst h; exact ok49
  · injection h with h; subst h; exact ok52
  · injection h with h; subst h; exact ok53
  · injection h with h; subst h; exact ok54
  · injection h with h; subst h; exact ok56
  · injection h with h; subst h; exact ok58
  · injection h with h; subst h; exact ok59
  · injection h with h; subst h; exact ok62
  · cases h
theorem said {f : Nat} {args : List DV} {r : DV × List DV} (h : call Zz.lf f args = some r) : CallSpec Try.prog f args r := call_sound okAll (draw_ok mixed) h
end Go.Proofs.Ythadcdlggmahfaa.oks
