/- That the data is what the program says, function by function. No conditions. -/
import Derived.Test.YtahkmbihhkjebaaDoorIrzv
import Derived.Test.YtahkmbihhkjebaaDoorLgD
import Derived.Test.YtahkmbihhkjebaaDoorRows
set_option linter.unusedSectionVars false
set_option linter.unusedVariables false
set_option linter.unusedSimpArgs false
namespace Go.Proofs.YtahkmbihhkjebaaDoor.oks
open Go.Lg Zz
def growRen : Go.Shelf.Ren := ⟨fun x => if x = 4 then 144 else x, fun x => if x = 0 then 0 else if x = 3 then 3 else if x = 4 then 4 else if x = 9 then 9 else if x = 20 then 20 else if x = 22 then 33 else if x = 25 then 95 else x, fun x => x⟩
theorem growLays : Lays8.n4 Tryd.prog growRen := { mixed := by kernel_rfl, f4 := ⟨_, by decide, Tryd.func144⟩, t0 := Tryd.underlying0, a0 := Tryd.isAgg0, z0 := Tryd.sizeOf0, v0 := Tryd.zeroValue0, t3 := Tryd.underlying3, a3 := Tryd.isAgg3, z3 := Tryd.sizeOf3, v3 := Tryd.zeroValue3, t4 := Tryd.underlying4, a4 := Tryd.isAgg4, z4 := Tryd.sizeOf4, v4 := Tryd.zeroValue4, t9 := Tryd.underlying9, a9 := Tryd.isAgg9, z9 := Tryd.sizeOf9, v9 := Tryd.zeroValue9, t20 := Tryd.underlying20, a20 := Tryd.isAgg20, z20 := Tryd.sizeOf20, v20 := Tryd.zeroValue20, t22 := Tryd.underlying33, a22 := Tryd.isAgg33, z22 := Tryd.sizeOf33, v22 := Tryd.zeroValue33 }
theorem growInfo : (Tryd.prog.info? (growRen.t 25)).map (fun i => (i.zero, i.size, i.bytes)) = some (some (Go.Value.agg #[.int .i64 0, .int .i64 0, .int .i64 0]), 3, 24) := by kernel_rfl
theorem ok9 : OkF Tryd.prog (dcOf Tryd.prog) 9 Zz.F_laws_FnExactOrderPlan := Or.inl ⟨rfl, ⟨⟨Tryd.f9, _, Tryd.func9, rfl, by kernel_rfl, by kernel_rfl, by kernel_rfl, by decide +kernel, by kernel_rfl⟩⟩⟩
theorem ok21 : OkF Tryd.prog (dcOf Tryd.prog) 21 Zz.F_laws_eqChoiceS := Or.inl ⟨rfl, ⟨⟨Tryd.f21, _, Tryd.func21, rfl, by kernel_rfl, by kernel_rfl, by kernel_rfl, by decide +kernel, by kernel_rfl⟩⟩⟩
theorem ok25 : OkF Tryd.prog (dcOf Tryd.prog) 25 Zz.F_laws_markChoiceS := Or.inl ⟨rfl, ⟨⟨Tryd.f25, _, Tryd.func25, rfl, by kernel_rfl, by kernel_rfl, by kernel_rfl, by decide +kernel, by kernel_rfl⟩⟩⟩
theorem ok26 : OkF Tryd.prog (dcOf Tryd.prog) 26 Zz.F_laws_heldChoiceS := Or.inl ⟨rfl, ⟨⟨Tryd.f26, _, Tryd.func26, rfl, by kernel_rfl, by kernel_rfl, by kernel_rfl, by decide +kernel, by kernel_rfl⟩⟩⟩
theorem ok27 : OkF Tryd.prog (dcOf Tryd.prog) 27 Zz.F_laws_szMarkS := Or.inl ⟨rfl, ⟨⟨Tryd.f27, _, Tryd.func27, rfl, by kernel_rfl, by kernel_rfl, by kernel_rfl, by decide +kernel, by kernel_rfl⟩⟩⟩
theorem ok29 : OkF Tryd.prog (dcOf Tryd.prog) 29 Zz.F_laws_toMarkS := Or.inl ⟨rfl, ⟨⟨Tryd.f29, _, Tryd.func29, rfl, by kernel_rfl, by kernel_rfl, by kernel_rfl, by decide +kernel, by kernel_rfl⟩⟩⟩
theorem ok31 : OkF Tryd.prog (dcOf Tryd.prog) 31 Zz.F_laws_eqMarkS := Or.inl ⟨rfl, ⟨⟨Tryd.f31, _, Tryd.func31, rfl, by kernel_rfl, by kernel_rfl, by kernel_rfl, by decide +kernel, by kernel_rfl⟩⟩⟩
theorem ok34 : OkF Tryd.prog (dcOf Tryd.prog) 34 Zz.F_laws_markMarkS := Or.inl ⟨rfl, ⟨⟨Tryd.f34, _, Tryd.func34, rfl, by kernel_rfl, by kernel_rfl, by kernel_rfl, by decide +kernel, by kernel_rfl⟩⟩⟩
theorem ok39 : OkF Tryd.prog (dcOf Tryd.prog) 39 Zz.F_spec_OrderPlan := Or.inl ⟨rfl, ⟨⟨Tryd.f39, _, Tryd.func39, rfl, by kernel_rfl, by kernel_rfl, by kernel_rfl, by decide +kernel, by kernel_rfl⟩⟩⟩
theorem ok40 : OkF Tryd.prog (dcOf Tryd.prog) 40 Zz.F_laws_toIntS := Or.inl ⟨rfl, ⟨⟨Tryd.f40, _, Tryd.func40, rfl, by kernel_rfl, by kernel_rfl, by kernel_rfl, by decide +kernel, by kernel_rfl⟩⟩⟩
theorem ok41 : OkF Tryd.prog (dcOf Tryd.prog) 41 Zz.F_impl_OrderPlan := Or.inl ⟨rfl, ⟨⟨Tryd.f41, _, Tryd.func41, rfl, by kernel_rfl, by kernel_rfl, by kernel_rfl, by decide +kernel, by kernel_rfl⟩⟩⟩
theorem ok42 : OkF Tryd.prog (dcOf Tryd.prog) 42 Zz.F_laws_eqIntS := Or.inl ⟨rfl, ⟨⟨Tryd.f42, _, Tryd.func42, rfl, by kernel_rfl, by kernel_rfl, by kernel_rfl, by decide +kernel, by kernel_rfl⟩⟩⟩
theorem ok43 : OkF Tryd.prog (dcOf Tryd.prog) 43 Zz.F_laws_markIntS := Or.inl ⟨rfl, ⟨⟨Tryd.f43, _, Tryd.func43, rfl, by kernel_rfl, by kernel_rfl, by kernel_rfl, by decide +kernel, by kernel_rfl⟩⟩⟩
theorem ok46 : OkF Tryd.prog (dcOf Tryd.prog) 46 Zz.F_spec_l1In := Or.inl ⟨rfl, ⟨⟨Tryd.f46, _, Tryd.func46, rfl, by kernel_rfl, by kernel_rfl, by kernel_rfl, by decide +kernel, by kernel_rfl⟩⟩⟩
theorem ok52 : OkF Tryd.prog (dcOf Tryd.prog) 52 Zz.F_impl_isWithin := Or.inl ⟨rfl, ⟨⟨Tryd.f52, _, Tryd.func52, rfl, by kernel_rfl, by kernel_rfl, by kernel_rfl, by decide +kernel, by kernel_rfl⟩⟩⟩
theorem ok53 : OkF Tryd.prog (dcOf Tryd.prog) 53 Zz.F_impl_sizeOf := Or.inl ⟨rfl, ⟨⟨Tryd.f53, _, Tryd.func53, rfl, by kernel_rfl, by kernel_rfl, by kernel_rfl, by decide +kernel, by kernel_rfl⟩⟩⟩
theorem ok69 : OkF Tryd.prog (dcOf Tryd.prog) 69 Zz.F_impl_planFrom := Or.inl ⟨rfl, ⟨⟨Tryd.f69, _, Tryd.func69, rfl, by kernel_rfl, by kernel_rfl, by kernel_rfl, by decide +kernel, by kernel_rfl⟩⟩⟩
theorem ok70 : OkF Tryd.prog (dcOf Tryd.prog) 70 Zz.F_impl_startOf := Or.inl ⟨rfl, ⟨⟨Tryd.f70, _, Tryd.func70, rfl, by kernel_rfl, by kernel_rfl, by kernel_rfl, by decide +kernel, by kernel_rfl⟩⟩⟩
theorem ok74 : OkF Tryd.prog (dcOf Tryd.prog) 74 Zz.F_laws_eqChoice := Or.inl ⟨rfl, ⟨⟨Tryd.f74, _, Tryd.func74, rfl, by kernel_rfl, by kernel_rfl, by kernel_rfl, by decide +kernel, by kernel_rfl⟩⟩⟩
theorem ok75 : OkF Tryd.prog (dcOf Tryd.prog) 75 Zz.F_spec_TermOk := Or.inl ⟨rfl, ⟨⟨Tryd.f75, _, Tryd.func75, rfl, by kernel_rfl, by kernel_rfl, by kernel_rfl, by decide +kernel, by kernel_rfl⟩⟩⟩
theorem ok77 : OkF Tryd.prog (dcOf Tryd.prog) 77 Zz.F_spec_l3Table := Or.inl ⟨rfl, ⟨⟨Tryd.f77, _, Tryd.func77, rfl, by kernel_rfl, by kernel_rfl, by kernel_rfl, by decide +kernel, by kernel_rfl⟩⟩⟩
theorem ok78 : OkF Tryd.prog (dcOf Tryd.prog) 78 Zz.F_spec_l4None := Or.inl ⟨rfl, ⟨⟨Tryd.f78, _, Tryd.func78, rfl, by kernel_rfl, by kernel_rfl, by kernel_rfl, by decide +kernel, by kernel_rfl⟩⟩⟩
theorem ok79 : OkF Tryd.prog (dcOf Tryd.prog) 79 Zz.F_laws_toMark := Or.inl ⟨rfl, ⟨⟨Tryd.f79, _, Tryd.func79, rfl, by kernel_rfl, by kernel_rfl, by kernel_rfl, by decide +kernel, by kernel_rfl⟩⟩⟩
theorem ok80 : OkF Tryd.prog (dcOf Tryd.prog) 80 Zz.F_impl_TermOk := Or.inl ⟨rfl, ⟨⟨Tryd.f80, _, Tryd.func80, rfl, by kernel_rfl, by kernel_rfl, by kernel_rfl, by decide +kernel, by kernel_rfl⟩⟩⟩
theorem ok83 : OkF Tryd.prog (dcOf Tryd.prog) 83 Zz.F_laws_eqMark := Or.inl ⟨rfl, ⟨⟨Tryd.f83, _, Tryd.func83, rfl, by kernel_rfl, by kernel_rfl, by kernel_rfl, by decide +kernel, by kernel_rfl⟩⟩⟩
theorem ok89 : OkF Tryd.prog (dcOf Tryd.prog) 89 Zz.F_impl_point_howManyAsked := Or.inl ⟨rfl, ⟨⟨Tryd.f89, _, Tryd.func89, rfl, by kernel_rfl, by kernel_rfl, by kernel_rfl, by decide +kernel, by kernel_rfl⟩⟩⟩
theorem ok90 : OkF Tryd.prog (dcOf Tryd.prog) 90 Zz.F_spec_OrderOk := Or.inl ⟨rfl, ⟨⟨Tryd.f90, _, Tryd.func90, rfl, by kernel_rfl, by kernel_rfl, by kernel_rfl, by decide +kernel, by kernel_rfl⟩⟩⟩
theorem ok91 : OkF Tryd.prog (dcOf Tryd.prog) 91 Zz.F_spec_l6Line := Or.inl ⟨rfl, ⟨⟨Tryd.f91, _, Tryd.func91, rfl, by kernel_rfl, by kernel_rfl, by kernel_rfl, by decide +kernel, by kernel_rfl⟩⟩⟩
theorem ok92 : OkF Tryd.prog (dcOf Tryd.prog) 92 Zz.F_impl_OrderOk := Or.inl ⟨rfl, ⟨⟨Tryd.f92, _, Tryd.func92, rfl, by kernel_rfl, by kernel_rfl, by kernel_rfl, by decide +kernel, by kernel_rfl⟩⟩⟩
theorem ok93 : OkF Tryd.prog (dcOf Tryd.prog) 93 Zz.F_impl_OrderPlan_1 := Or.inl ⟨rfl, ⟨⟨Tryd.f93, _, Tryd.func93, rfl, by kernel_rfl, by kernel_rfl, by kernel_rfl, by decide +kernel, by kernel_rfl⟩⟩⟩
theorem ok95 : OkF Tryd.prog (dcOf Tryd.prog) 95 Zz.F_impl_manyOk := Or.inl ⟨rfl, ⟨⟨Tryd.f95, _, Tryd.func95, rfl, by kernel_rfl, by kernel_rfl, by kernel_rfl, by decide +kernel, by kernel_rfl⟩⟩⟩
theorem ok97 : OkF Tryd.prog (dcOf Tryd.prog) 97 Zz.F_math_bits_OnesCount := Or.inl ⟨rfl, ⟨⟨Tryd.f97, _, Tryd.func97, rfl, by kernel_rfl, by kernel_rfl, by kernel_rfl, by decide +kernel, by kernel_rfl⟩⟩⟩
theorem ok98 : OkF Tryd.prog (dcOf Tryd.prog) 98 Zz.F_impl_hasTest := Or.inl ⟨rfl, ⟨⟨Tryd.f98, _, Tryd.func98, rfl, by kernel_rfl, by kernel_rfl, by kernel_rfl, by decide +kernel, by kernel_rfl⟩⟩⟩
theorem ok114 : OkF Tryd.prog (dcOf Tryd.prog) 114 Zz.F_impl_point_isForced := Or.inl ⟨rfl, ⟨⟨Tryd.f114, _, Tryd.func114, rfl, by kernel_rfl, by kernel_rfl, by kernel_rfl, by decide +kernel, by kernel_rfl⟩⟩⟩
theorem ok115 : OkF Tryd.prog (dcOf Tryd.prog) 115 Zz.F_impl_point_answered := Or.inl ⟨rfl, ⟨⟨Tryd.f115, _, Tryd.func115, rfl, by kernel_rfl, by kernel_rfl, by kernel_rfl, by decide +kernel, by kernel_rfl⟩⟩⟩
theorem ok116 : OkF Tryd.prog (dcOf Tryd.prog) 116 Zz.F_slices_Concat_impl_Choice_impl_Choice := Or.inl ⟨rfl, ⟨⟨Tryd.f116, _, Tryd.func116, rfl, by kernel_rfl, by kernel_rfl, by kernel_rfl, by decide +kernel, by kernel_rfl⟩⟩⟩
theorem ok117 : OkF Tryd.prog (dcOf Tryd.prog) 117 Zz.F_impl_trueStates := Or.inl ⟨rfl, ⟨⟨Tryd.f117, _, Tryd.func117, rfl, by kernel_rfl, by kernel_rfl, by kernel_rfl, by decide +kernel, by kernel_rfl⟩⟩⟩
theorem ok120 : OkF Tryd.prog (dcOf Tryd.prog) 120 Zz.F_impl_valueAmong := Or.inl ⟨rfl, ⟨⟨Tryd.f120, _, Tryd.func120, rfl, by kernel_rfl, by kernel_rfl, by kernel_rfl, by decide +kernel, by kernel_rfl⟩⟩⟩
theorem ok124 : OkF Tryd.prog (dcOf Tryd.prog) 124 Zz.F_spec_l3Forced := Or.inl ⟨rfl, ⟨⟨Tryd.f124, _, Tryd.func124, rfl, by kernel_rfl, by kernel_rfl, by kernel_rfl, by decide +kernel, by kernel_rfl⟩⟩⟩
theorem ok125 : OkF Tryd.prog (dcOf Tryd.prog) 125 Zz.F_spec_l3Value := Or.inl ⟨rfl, ⟨⟨Tryd.f125, _, Tryd.func125, rfl, by kernel_rfl, by kernel_rfl, by kernel_rfl, by decide +kernel, by kernel_rfl⟩⟩⟩
theorem ok126 : OkF Tryd.prog (dcOf Tryd.prog) 126 Zz.F_impl_partsTaken := Or.inl ⟨rfl, ⟨⟨Tryd.f126, _, Tryd.func126, rfl, by kernel_rfl, by kernel_rfl, by kernel_rfl, by decide +kernel, by kernel_rfl⟩⟩⟩
theorem ok127 : OkF Tryd.prog (dcOf Tryd.prog) 127 Zz.F_impl_markOk := Or.inl ⟨rfl, ⟨⟨Tryd.f127, _, Tryd.func127, rfl, by kernel_rfl, by kernel_rfl, by kernel_rfl, by decide +kernel, by kernel_rfl⟩⟩⟩
theorem ok135 : OkF Tryd.prog (dcOf Tryd.prog) 135 Zz.F_math_bits_OnesCount64 := Or.inl ⟨rfl, ⟨⟨Tryd.f135, _, Tryd.func135, rfl, by kernel_rfl, by kernel_rfl, by kernel_rfl, by decide +kernel, by kernel_rfl⟩⟩⟩
theorem ok143 : OkF Tryd.prog (dcOf Tryd.prog) 143 Zz.F_impl_statesSaying := Or.inl ⟨rfl, ⟨⟨Tryd.f143, _, Tryd.func143, rfl, by kernel_rfl, by kernel_rfl, by kernel_rfl, by decide +kernel, by kernel_rfl⟩⟩⟩
set_option maxRecDepth 100000 in
theorem ok144 : OkF Tryd.prog (dcOf Tryd.prog) 144 Zz.F_slices_Grow_impl_Choice_impl_Choice := Or.inr ⟨(growP 3), rfl, grow_sound growLays (by kernel_rfl) growInfo rfl (by decide) (by decide) (by decide)⟩
theorem ok145 : OkF Tryd.prog (dcOf Tryd.prog) 145 Zz.F_impl_foldTerm_uint32 := Or.inl ⟨rfl, ⟨⟨Tryd.f145, _, Tryd.func145, rfl, by kernel_rfl, by kernel_rfl, by kernel_rfl, by decide +kernel, by kernel_rfl⟩⟩⟩
theorem ok146 : OkF Tryd.prog (dcOf Tryd.prog) 146 Zz.F_impl_statesOfPart := Or.inl ⟨rfl, ⟨⟨Tryd.f146, _, Tryd.func146, rfl, by kernel_rfl, by kernel_rfl, by kernel_rfl, by decide +kernel, by kernel_rfl⟩⟩⟩
theorem ok147 : OkF Tryd.prog (dcOf Tryd.prog) 147 Zz.F_spec_l1Agrees := Or.inl ⟨rfl, ⟨⟨Tryd.f147, _, Tryd.func147, rfl, by kernel_rfl, by kernel_rfl, by kernel_rfl, by decide +kernel, by kernel_rfl⟩⟩⟩
theorem ok148 : OkF Tryd.prog (dcOf Tryd.prog) 148 Zz.F_spec_l2Starts := Or.inl ⟨rfl, ⟨⟨Tryd.f148, _, Tryd.func148, rfl, by kernel_rfl, by kernel_rfl, by kernel_rfl, by decide +kernel, by kernel_rfl⟩⟩⟩
theorem mixed : Tryd.prog.follows .mixedOrders = true := by kernel_rfl
theorem okAll : ∀ f F, Zz.lf f = some F → OkF Tryd.prog (dcOf Tryd.prog) f F := by
  intro f F h
  unfold Zz.lf at h
  split at h
  · injection h with h; subst h; exact ok9
  · injection h with h; subst h; exact ok21
  · injection h with h; subst h; exact ok25
  · injection h with h; subst h; exact ok26
  · injection h with h; subst h; exact ok27
  · injection h with h; subst h; exact ok29
  · injection h with h; subst h; exact ok31
  · injection h with h; subst h; exact ok34
  · injection h with h; subst h; exact ok39
  · injection h with h; subst h; exact ok40
  · injection h with h; subst h; exact ok41
  · injection h with h; subst h; exact ok42
  · injection h with h; subst h; exact ok43
  · injection h with h; subst h; exact ok46
  · injection h with h; subst h; exact ok52
  · injection h with h; subst h; exact ok53
  · injection h with h; subst h; exact ok69
  · injection h with h; subst h; exact ok70
  · injection h with h; subst h; exact ok74
  · injection h with h; subst h; exact ok75
  · injection h with h; subst h; exact ok77
  · injection h with h; subst h; exact ok78
  · injection h with h; subst h; exact ok79
  · injection h with h; subst h; exact ok80
  · injection h with h; subst h; exact ok83
  · injection h with h; subst h; exact ok89
  · injection h with h; subst h; exact ok90
  · injection h with h; subst h; exact ok91
  · injection h with h; subst h; exact ok92
  · injection h with h; subst h; exact ok93
  · injection h with h; subst h; exact ok95
  · injection h with h; subst h; exact ok97
  · injection h with h; subst h; exact ok98
  · injection h with h; subst h; exact ok114
  · injection h with h; subst h; exact ok115
  · injection h with h; subst h; exact ok116
  · injection h with h; subst h; exact ok117
  · injection h with h; subst h; exact ok120
  · injection h with h; subst h; exact ok124
  · injection h with h; subst h; exact ok125
  · injection h with h; subst h; exact ok126
  · injection h with h; subst h; exact ok127
  · injection h with h; subst h; exact ok135
  · injection h with h; subst h; exact ok143
  · injection h with h; subst h; exact ok144
  · injection h with h; subst h; exact ok145
  · injection h with h; subst h; exact ok146
  · injection h with h; subst h; exact ok147
  · injection h with h; subst h; exact ok148
  · cases h
theorem said {f : Nat} {args : List DV} {r : DV × List DV} (h : call Zz.lf f args = some r) : CallSpec Tryd.prog f args r := call_sound okAll (draw_ok mixed) h
end Go.Proofs.YtahkmbihhkjebaaDoor.oks
