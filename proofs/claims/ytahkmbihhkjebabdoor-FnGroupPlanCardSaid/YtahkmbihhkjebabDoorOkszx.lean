/- That the data is what the program says, function by function. No conditions. -/
import Derived.Test.YtahkmbihhkjebabDoorIrzx
import Derived.Test.YtahkmbihhkjebabDoorLgD
import Derived.Test.YtahkmbihhkjebabDoorRows
set_option linter.unusedSectionVars false
set_option linter.unusedVariables false
set_option linter.unusedSimpArgs false
namespace Go.Proofs.YtahkmbihhkjebabDoor.oks
open Go.Lg Zz
def growRen : Go.Shelf.Ren := ⟨fun x => if x = 4 then 160 else x, fun x => if x = 0 then 0 else if x = 3 then 3 else if x = 4 then 4 else if x = 9 then 9 else if x = 20 then 20 else if x = 22 then 47 else if x = 25 then 110 else x, fun x => x⟩
theorem growLays : Lays8.n4 Tryd.prog growRen := { mixed := by kernel_rfl, f4 := ⟨_, by decide, Tryd.func160⟩, t0 := Tryd.underlying0, a0 := Tryd.isAgg0, z0 := Tryd.sizeOf0, v0 := Tryd.zeroValue0, t3 := Tryd.underlying3, a3 := Tryd.isAgg3, z3 := Tryd.sizeOf3, v3 := Tryd.zeroValue3, t4 := Tryd.underlying4, a4 := Tryd.isAgg4, z4 := Tryd.sizeOf4, v4 := Tryd.zeroValue4, t9 := Tryd.underlying9, a9 := Tryd.isAgg9, z9 := Tryd.sizeOf9, v9 := Tryd.zeroValue9, t20 := Tryd.underlying20, a20 := Tryd.isAgg20, z20 := Tryd.sizeOf20, v20 := Tryd.zeroValue20, t22 := Tryd.underlying47, a22 := Tryd.isAgg47, z22 := Tryd.sizeOf47, v22 := Tryd.zeroValue47 }
theorem growInfo : (Tryd.prog.info? (growRen.t 25)).map (fun i => (i.zero, i.size, i.bytes)) = some (some (Go.Value.agg #[.int .i64 0, .int .i64 0, .int .i64 0]), 3, 24) := by kernel_rfl
def insRen : Go.Shelf.Ren := ⟨fun x => if x = 21 then 114 else if x = 27 then 152 else if x = 28 then 153 else if x = 35 then 165 else if x = 39 then 170 else x, fun x => if x = 0 then 0 else if x = 3 then 3 else if x = 4 then 4 else if x = 22 then 34 else x, fun x => x⟩
theorem insLays : Lays2.n21 Tryd.prog insRen := { mixed := by kernel_rfl, f21 := by kernel_rfl, f27 := by kernel_rfl, f28 := by kernel_rfl, f35 := by kernel_rfl, f39 := by kernel_rfl, t0 := Tryd.underlying0, a0 := Tryd.isAgg0, z0 := Tryd.sizeOf0, v0 := Tryd.zeroValue0, t3 := Tryd.underlying3, a3 := Tryd.isAgg3, z3 := Tryd.sizeOf3, v3 := Tryd.zeroValue3, t4 := Tryd.underlying4, a4 := Tryd.isAgg4, z4 := Tryd.sizeOf4, v4 := Tryd.zeroValue4, t22 := Tryd.underlying34, a22 := Tryd.isAgg34, z22 := Tryd.sizeOf34, v22 := Tryd.zeroValue34, i3 := by kernel_rfl }
def askRen : Go.Shelf.Ren := ⟨fun x => if x = 22 then 158 else if x = 29 then 167 else if x = 17 then 168 else if x = 30 then 168 else x, fun x => if x = 0 then 0 else if x = 3 then 3 else if x = 4 then 4 else if x = 24 then 100 else if x = 9 then 118 else x, fun x => x⟩
theorem askLays : InsAt Tryd.prog askRen (Go.Value.agg #[.int .i64 0, .int .i64 0, .slice none 0 0, .int .i64 0]) 4 48 := { mixed := by kernel_rfl, body := ⟨(Tryd.f158).name, by kernel_rfl, by kernel_rfl⟩, apart := fun args w => Go.run_callFunc_extern (fn := Tryd.f167) Tryd.func167 (by kernel_rfl) (by kernel_rfl) (by kernel_rfl) (by kernel_rfl) args w, t0 := Tryd.underlying0, a0 := Tryd.isAgg0, z0 := Tryd.sizeOf0, v0 := Tryd.zeroValue0, t3 := Tryd.underlying3, a3 := Tryd.isAgg3, z3 := Tryd.sizeOf3, v3 := Tryd.zeroValue3, t4 := Tryd.underlying4, a4 := Tryd.isAgg4, z4 := Tryd.sizeOf4, v4 := Tryd.zeroValue4, t24 := Tryd.underlying100, a24 := Tryd.isAgg100, z24 := Tryd.sizeOf100, v24 := Tryd.zeroValue100, i9 := by kernel_rfl, zc := by kernel_rfl, pos := by decide, small := by decide }
theorem ok7 : OkF Tryd.prog (dcOf Tryd.prog) 7 Zz.F_laws_FnGroupPlan := Or.inl ⟨rfl, ⟨⟨Tryd.f7, _, Tryd.func7, rfl, by kernel_rfl, by kernel_rfl, by kernel_rfl, by decide +kernel, by kernel_rfl⟩⟩⟩
theorem ok15 : OkF Tryd.prog (dcOf Tryd.prog) 15 Zz.F_laws_alive := Or.inl ⟨rfl, ⟨⟨Tryd.f15, _, Tryd.func15, rfl, by kernel_rfl, by kernel_rfl, by kernel_rfl, by decide +kernel, by kernel_rfl⟩⟩⟩
theorem ok20 : OkF Tryd.prog (dcOf Tryd.prog) 20 Zz.F_impl_RowAverage := Or.inl ⟨rfl, ⟨⟨Tryd.f20, _, Tryd.func20, rfl, by kernel_rfl, by kernel_rfl, by kernel_rfl, by decide +kernel, by kernel_rfl⟩⟩⟩
theorem ok21 : OkF Tryd.prog (dcOf Tryd.prog) 21 Zz.F_impl_RatioOrder := Or.inl ⟨rfl, ⟨⟨Tryd.f21, _, Tryd.func21, rfl, by kernel_rfl, by kernel_rfl, by kernel_rfl, by decide +kernel, by kernel_rfl⟩⟩⟩
theorem ok29 : OkF Tryd.prog (dcOf Tryd.prog) 29 Zz.F_spec_TestsOk := Or.inl ⟨rfl, ⟨⟨Tryd.f29, _, Tryd.func29, rfl, by kernel_rfl, by kernel_rfl, by kernel_rfl, by decide +kernel, by kernel_rfl⟩⟩⟩
theorem ok33 : OkF Tryd.prog (dcOf Tryd.prog) 33 Zz.F_spec_DrawGroupPlan := Or.inl ⟨rfl, ⟨⟨Tryd.f33, _, Tryd.func33, rfl, by kernel_rfl, by kernel_rfl, by kernel_rfl, by decide +kernel, by kernel_rfl⟩⟩⟩
theorem ok34 : OkF Tryd.prog (dcOf Tryd.prog) 34 Zz.F_impl_GroupPlan := Or.inl ⟨rfl, ⟨⟨Tryd.f34, _, Tryd.func34, rfl, by kernel_rfl, by kernel_rfl, by kernel_rfl, by decide +kernel, by kernel_rfl⟩⟩⟩
theorem ok35 : OkF Tryd.prog (dcOf Tryd.prog) 35 Zz.F_spec_GroupPlan := Or.inl ⟨rfl, ⟨⟨Tryd.f35, _, Tryd.func35, rfl, by kernel_rfl, by kernel_rfl, by kernel_rfl, by decide +kernel, by kernel_rfl⟩⟩⟩
theorem ok36 : OkF Tryd.prog (dcOf Tryd.prog) 36 Zz.F_laws_samePlan := Or.inl ⟨rfl, ⟨⟨Tryd.f36, _, Tryd.func36, rfl, by kernel_rfl, by kernel_rfl, by kernel_rfl, by decide +kernel, by kernel_rfl⟩⟩⟩
theorem ok37 : OkF Tryd.prog (dcOf Tryd.prog) 37 Zz.F_impl_GroupTerm := Or.inl ⟨rfl, ⟨⟨Tryd.f37, _, Tryd.func37, rfl, by kernel_rfl, by kernel_rfl, by kernel_rfl, by decide +kernel, by kernel_rfl⟩⟩⟩
theorem ok38 : OkF Tryd.prog (dcOf Tryd.prog) 38 Zz.F_impl_PlanOk := Or.inl ⟨rfl, ⟨⟨Tryd.f38, _, Tryd.func38, rfl, by kernel_rfl, by kernel_rfl, by kernel_rfl, by decide +kernel, by kernel_rfl⟩⟩⟩
theorem ok39 : OkF Tryd.prog (dcOf Tryd.prog) 39 Zz.F_impl_AverageBy := Or.inl ⟨rfl, ⟨⟨Tryd.f39, _, Tryd.func39, rfl, by kernel_rfl, by kernel_rfl, by kernel_rfl, by decide +kernel, by kernel_rfl⟩⟩⟩
theorem ok40 : OkF Tryd.prog (dcOf Tryd.prog) 40 Zz.F_impl_GroupAverage := Or.inl ⟨rfl, ⟨⟨Tryd.f40, _, Tryd.func40, rfl, by kernel_rfl, by kernel_rfl, by kernel_rfl, by decide +kernel, by kernel_rfl⟩⟩⟩
theorem ok47 : OkF Tryd.prog (dcOf Tryd.prog) 47 Zz.F_spec_l20Open := Or.inl ⟨rfl, ⟨⟨Tryd.f47, _, Tryd.func47, rfl, by kernel_rfl, by kernel_rfl, by kernel_rfl, by decide +kernel, by kernel_rfl⟩⟩⟩
theorem ok48 : OkF Tryd.prog (dcOf Tryd.prog) 48 Zz.F_spec_l20Tests := Or.inl ⟨rfl, ⟨⟨Tryd.f48, _, Tryd.func48, rfl, by kernel_rfl, by kernel_rfl, by kernel_rfl, by decide +kernel, by kernel_rfl⟩⟩⟩
theorem ok49 : OkF Tryd.prog (dcOf Tryd.prog) 49 Zz.F_spec_l20Rd_pick := Or.inl ⟨rfl, ⟨⟨Tryd.f49, _, Tryd.func49, rfl, by kernel_rfl, by kernel_rfl, by kernel_rfl, by decide +kernel, by kernel_rfl⟩⟩⟩
theorem ok51 : OkF Tryd.prog (dcOf Tryd.prog) 51 Zz.F_impl_TestsOk := Or.inl ⟨rfl, ⟨⟨Tryd.f51, _, Tryd.func51, rfl, by kernel_rfl, by kernel_rfl, by kernel_rfl, by decide +kernel, by kernel_rfl⟩⟩⟩
theorem ok52 : OkF Tryd.prog (dcOf Tryd.prog) 52 Zz.F_impl_StateOk := Or.inl ⟨rfl, ⟨⟨Tryd.f52, _, Tryd.func52, rfl, by kernel_rfl, by kernel_rfl, by kernel_rfl, by decide +kernel, by kernel_rfl⟩⟩⟩
theorem ok53 : OkF Tryd.prog (dcOf Tryd.prog) 53 Zz.F_impl_isWithin := Or.inl ⟨rfl, ⟨⟨Tryd.f53, _, Tryd.func53, rfl, by kernel_rfl, by kernel_rfl, by kernel_rfl, by decide +kernel, by kernel_rfl⟩⟩⟩
theorem ok58 : OkF Tryd.prog (dcOf Tryd.prog) 58 Zz.F_spec_l1In := Or.inl ⟨rfl, ⟨⟨Tryd.f58, _, Tryd.func58, rfl, by kernel_rfl, by kernel_rfl, by kernel_rfl, by decide +kernel, by kernel_rfl⟩⟩⟩
theorem ok67 : OkF Tryd.prog (dcOf Tryd.prog) 67 Zz.F_spec_l1Power := Or.inl ⟨rfl, ⟨⟨Tryd.f67, _, Tryd.func67, rfl, by kernel_rfl, by kernel_rfl, by kernel_rfl, by decide +kernel, by kernel_rfl⟩⟩⟩
theorem ok68 : OkF Tryd.prog (dcOf Tryd.prog) 68 Zz.F_impl_OrderOk := Or.inl ⟨rfl, ⟨⟨Tryd.f68, _, Tryd.func68, rfl, by kernel_rfl, by kernel_rfl, by kernel_rfl, by decide +kernel, by kernel_rfl⟩⟩⟩
theorem ok69 : OkF Tryd.prog (dcOf Tryd.prog) 69 Zz.F_impl_rowOk := Or.inl ⟨rfl, ⟨⟨Tryd.f69, _, Tryd.func69, rfl, by kernel_rfl, by kernel_rfl, by kernel_rfl, by decide +kernel, by kernel_rfl⟩⟩⟩
theorem ok70 : OkF Tryd.prog (dcOf Tryd.prog) 70 Zz.F_impl_wholeOf := Or.inl ⟨rfl, ⟨⟨Tryd.f70, _, Tryd.func70, rfl, by kernel_rfl, by kernel_rfl, by kernel_rfl, by decide +kernel, by kernel_rfl⟩⟩⟩
theorem ok71 : OkF Tryd.prog (dcOf Tryd.prog) 71 Zz.F_impl_endChance := Or.inl ⟨rfl, ⟨⟨Tryd.f71, _, Tryd.func71, rfl, by kernel_rfl, by kernel_rfl, by kernel_rfl, by decide +kernel, by kernel_rfl⟩⟩⟩
theorem ok72 : OkF Tryd.prog (dcOf Tryd.prog) 72 Zz.F_impl_RatioOrder_1 := Or.inl ⟨rfl, ⟨⟨Tryd.f72, _, Tryd.func72, rfl, by kernel_rfl, by kernel_rfl, by kernel_rfl, by decide +kernel, by kernel_rfl⟩⟩⟩
theorem ok73 : OkF Tryd.prog (dcOf Tryd.prog) 73 Zz.F_impl_ratioOf := Or.inl ⟨rfl, ⟨⟨Tryd.f73, _, Tryd.func73, rfl, by kernel_rfl, by kernel_rfl, by kernel_rfl, by decide +kernel, by kernel_rfl⟩⟩⟩
theorem ok74 : OkF Tryd.prog (dcOf Tryd.prog) 74 Zz.F_impl_ratio_isLess := Or.inl ⟨rfl, ⟨⟨Tryd.f74, _, Tryd.func74, rfl, by kernel_rfl, by kernel_rfl, by kernel_rfl, by decide +kernel, by kernel_rfl⟩⟩⟩
theorem ok75 : OkF Tryd.prog (dcOf Tryd.prog) 75 Zz.F_impl_inserted_int := Or.inl ⟨rfl, ⟨⟨Tryd.f75, _, Tryd.func75, rfl, by kernel_rfl, by kernel_rfl, by kernel_rfl, by decide +kernel, by kernel_rfl⟩⟩⟩
theorem ok78 : OkF Tryd.prog (dcOf Tryd.prog) 78 Zz.F_impl_TermOk := Or.inl ⟨rfl, ⟨⟨Tryd.f78, _, Tryd.func78, rfl, by kernel_rfl, by kernel_rfl, by kernel_rfl, by decide +kernel, by kernel_rfl⟩⟩⟩
theorem ok80 : OkF Tryd.prog (dcOf Tryd.prog) 80 Zz.F_impl_startOf := Or.inl ⟨rfl, ⟨⟨Tryd.f80, _, Tryd.func80, rfl, by kernel_rfl, by kernel_rfl, by kernel_rfl, by decide +kernel, by kernel_rfl⟩⟩⟩
theorem ok82 : OkF Tryd.prog (dcOf Tryd.prog) 82 Zz.F_impl_manyOk := Or.inl ⟨rfl, ⟨⟨Tryd.f82, _, Tryd.func82, rfl, by kernel_rfl, by kernel_rfl, by kernel_rfl, by decide +kernel, by kernel_rfl⟩⟩⟩
theorem ok86 : OkF Tryd.prog (dcOf Tryd.prog) 86 Zz.F_impl_trueStates := Or.inl ⟨rfl, ⟨⟨Tryd.f86, _, Tryd.func86, rfl, by kernel_rfl, by kernel_rfl, by kernel_rfl, by decide +kernel, by kernel_rfl⟩⟩⟩
theorem ok87 : OkF Tryd.prog (dcOf Tryd.prog) 87 Zz.F_impl_statesOf := Or.inl ⟨rfl, ⟨⟨Tryd.f87, _, Tryd.func87, rfl, by kernel_rfl, by kernel_rfl, by kernel_rfl, by decide +kernel, by kernel_rfl⟩⟩⟩
theorem ok88 : OkF Tryd.prog (dcOf Tryd.prog) 88 Zz.F_impl_WeightOf := Or.inl ⟨rfl, ⟨⟨Tryd.f88, _, Tryd.func88, rfl, by kernel_rfl, by kernel_rfl, by kernel_rfl, by decide +kernel, by kernel_rfl⟩⟩⟩
theorem ok89 : OkF Tryd.prog (dcOf Tryd.prog) 89 Zz.F_spec_l20Grouped := Or.inl ⟨rfl, ⟨⟨Tryd.f89, _, Tryd.func89, rfl, by kernel_rfl, by kernel_rfl, by kernel_rfl, by decide +kernel, by kernel_rfl⟩⟩⟩
theorem ok90 : OkF Tryd.prog (dcOf Tryd.prog) 90 Zz.F_impl_groupsByRatios := Or.inl ⟨rfl, ⟨⟨Tryd.f90, _, Tryd.func90, rfl, by kernel_rfl, by kernel_rfl, by kernel_rfl, by decide +kernel, by kernel_rfl⟩⟩⟩
theorem ok91 : OkF Tryd.prog (dcOf Tryd.prog) 91 Zz.F_impl_planFrom := Or.inl ⟨rfl, ⟨⟨Tryd.f91, _, Tryd.func91, rfl, by kernel_rfl, by kernel_rfl, by kernel_rfl, by decide +kernel, by kernel_rfl⟩⟩⟩
theorem ok92 : OkF Tryd.prog (dcOf Tryd.prog) 92 Zz.F_impl_GroupPlan_1 := Or.inl ⟨rfl, ⟨⟨Tryd.f92, _, Tryd.func92, rfl, by kernel_rfl, by kernel_rfl, by kernel_rfl, by decide +kernel, by kernel_rfl⟩⟩⟩
theorem ok93 : OkF Tryd.prog (dcOf Tryd.prog) 93 Zz.F_impl_nextInGroups := Or.inl ⟨rfl, ⟨⟨Tryd.f93, _, Tryd.func93, rfl, by kernel_rfl, by kernel_rfl, by kernel_rfl, by decide +kernel, by kernel_rfl⟩⟩⟩
theorem ok94 : OkF Tryd.prog (dcOf Tryd.prog) 94 Zz.F_spec_SortedGroups := Or.inl ⟨rfl, ⟨⟨Tryd.f94, _, Tryd.func94, rfl, by kernel_rfl, by kernel_rfl, by kernel_rfl, by decide +kernel, by kernel_rfl⟩⟩⟩
theorem ok95 : OkF Tryd.prog (dcOf Tryd.prog) 95 Zz.F_spec_l7Grow := Or.inl ⟨rfl, ⟨⟨Tryd.f95, _, Tryd.func95, rfl, by kernel_rfl, by kernel_rfl, by kernel_rfl, by decide +kernel, by kernel_rfl⟩⟩⟩
theorem ok96 : OkF Tryd.prog (dcOf Tryd.prog) 96 Zz.F_impl_GroupsOk := Or.inl ⟨rfl, ⟨⟨Tryd.f96, _, Tryd.func96, rfl, by kernel_rfl, by kernel_rfl, by kernel_rfl, by decide +kernel, by kernel_rfl⟩⟩⟩
theorem ok97 : OkF Tryd.prog (dcOf Tryd.prog) 97 Zz.F_impl_pointsOf := Or.inl ⟨rfl, ⟨⟨Tryd.f97, _, Tryd.func97, rfl, by kernel_rfl, by kernel_rfl, by kernel_rfl, by decide +kernel, by kernel_rfl⟩⟩⟩
theorem ok98 : OkF Tryd.prog (dcOf Tryd.prog) 98 Zz.F_impl_costsBy := Or.inl ⟨rfl, ⟨⟨Tryd.f98, _, Tryd.func98, rfl, by kernel_rfl, by kernel_rfl, by kernel_rfl, by decide +kernel, by kernel_rfl⟩⟩⟩
theorem ok106 : OkF Tryd.prog (dcOf Tryd.prog) 106 Zz.F_spec_l7Cost := Or.inl ⟨rfl, ⟨⟨Tryd.f106, _, Tryd.func106, rfl, by kernel_rfl, by kernel_rfl, by kernel_rfl, by decide +kernel, by kernel_rfl⟩⟩⟩
theorem ok107 : OkF Tryd.prog (dcOf Tryd.prog) 107 Zz.F_spec_l20Rd_odd := Or.inl ⟨rfl, ⟨⟨Tryd.f107, _, Tryd.func107, rfl, by kernel_rfl, by kernel_rfl, by kernel_rfl, by decide +kernel, by kernel_rfl⟩⟩⟩
theorem ok109 : OkF Tryd.prog (dcOf Tryd.prog) 109 Zz.F_impl_hasTest := Or.inl ⟨rfl, ⟨⟨Tryd.f109, _, Tryd.func109, rfl, by kernel_rfl, by kernel_rfl, by kernel_rfl, by decide +kernel, by kernel_rfl⟩⟩⟩
set_option maxRecDepth 100000 in
theorem ok114 : OkF Tryd.prog (dcOf Tryd.prog) 114 Zz.F_slices_Insert_int_int := Or.inr ⟨insP, rfl, ins_sound insLays (by kernel_rfl)⟩
theorem ok115 : OkF Tryd.prog (dcOf Tryd.prog) 115 Zz.F_impl_partsTaken := Or.inl ⟨rfl, ⟨⟨Tryd.f115, _, Tryd.func115, rfl, by kernel_rfl, by kernel_rfl, by kernel_rfl, by decide +kernel, by kernel_rfl⟩⟩⟩
theorem ok116 : OkF Tryd.prog (dcOf Tryd.prog) 116 Zz.F_impl_markOk := Or.inl ⟨rfl, ⟨⟨Tryd.f116, _, Tryd.func116, rfl, by kernel_rfl, by kernel_rfl, by kernel_rfl, by decide +kernel, by kernel_rfl⟩⟩⟩
theorem ok117 : OkF Tryd.prog (dcOf Tryd.prog) 117 Zz.F_impl_point_isForced := Or.inl ⟨rfl, ⟨⟨Tryd.f117, _, Tryd.func117, rfl, by kernel_rfl, by kernel_rfl, by kernel_rfl, by decide +kernel, by kernel_rfl⟩⟩⟩
theorem ok118 : OkF Tryd.prog (dcOf Tryd.prog) 118 Zz.F_impl_point_canAsk := Or.inl ⟨rfl, ⟨⟨Tryd.f118, _, Tryd.func118, rfl, by kernel_rfl, by kernel_rfl, by kernel_rfl, by decide +kernel, by kernel_rfl⟩⟩⟩
theorem ok119 : OkF Tryd.prog (dcOf Tryd.prog) 119 Zz.F_impl_point_answered := Or.inl ⟨rfl, ⟨⟨Tryd.f119, _, Tryd.func119, rfl, by kernel_rfl, by kernel_rfl, by kernel_rfl, by decide +kernel, by kernel_rfl⟩⟩⟩
theorem ok127 : OkF Tryd.prog (dcOf Tryd.prog) 127 Zz.F_impl_foldTerm_uint32 := Or.inl ⟨rfl, ⟨⟨Tryd.f127, _, Tryd.func127, rfl, by kernel_rfl, by kernel_rfl, by kernel_rfl, by decide +kernel, by kernel_rfl⟩⟩⟩
theorem ok128 : OkF Tryd.prog (dcOf Tryd.prog) 128 Zz.F_impl_statesOfPart := Or.inl ⟨rfl, ⟨⟨Tryd.f128, _, Tryd.func128, rfl, by kernel_rfl, by kernel_rfl, by kernel_rfl, by decide +kernel, by kernel_rfl⟩⟩⟩
theorem ok129 : OkF Tryd.prog (dcOf Tryd.prog) 129 Zz.F_impl_outcomeIn := Or.inl ⟨rfl, ⟨⟨Tryd.f129, _, Tryd.func129, rfl, by kernel_rfl, by kernel_rfl, by kernel_rfl, by decide +kernel, by kernel_rfl⟩⟩⟩
theorem ok130 : OkF Tryd.prog (dcOf Tryd.prog) 130 Zz.F_spec_l20Groups := Or.inl ⟨rfl, ⟨⟨Tryd.f130, _, Tryd.func130, rfl, by kernel_rfl, by kernel_rfl, by kernel_rfl, by decide +kernel, by kernel_rfl⟩⟩⟩
theorem ok131 : OkF Tryd.prog (dcOf Tryd.prog) 131 Zz.F_impl_groupsByRatios_1 := Or.inl ⟨rfl, ⟨⟨Tryd.f131, _, Tryd.func131, rfl, by kernel_rfl, by kernel_rfl, by kernel_rfl, by decide +kernel, by kernel_rfl⟩⟩⟩
theorem ok132 : OkF Tryd.prog (dcOf Tryd.prog) 132 Zz.F_impl_inserted_impl_askedGroup := Or.inl ⟨rfl, ⟨⟨Tryd.f132, _, Tryd.func132, rfl, by kernel_rfl, by kernel_rfl, by kernel_rfl, by decide +kernel, by kernel_rfl⟩⟩⟩
theorem ok133 : OkF Tryd.prog (dcOf Tryd.prog) 133 Zz.F_impl_groupOf := Or.inl ⟨rfl, ⟨⟨Tryd.f133, _, Tryd.func133, rfl, by kernel_rfl, by kernel_rfl, by kernel_rfl, by decide +kernel, by kernel_rfl⟩⟩⟩
theorem ok134 : OkF Tryd.prog (dcOf Tryd.prog) 134 Zz.F_slices_Concat_impl_Choice_impl_Choice := Or.inl ⟨rfl, ⟨⟨Tryd.f134, _, Tryd.func134, rfl, by kernel_rfl, by kernel_rfl, by kernel_rfl, by decide +kernel, by kernel_rfl⟩⟩⟩
theorem ok135 : OkF Tryd.prog (dcOf Tryd.prog) 135 Zz.F_slices_IndexFunc_impl_askedGroup_impl_askedGroup := Or.inl ⟨rfl, ⟨⟨Tryd.f135, _, Tryd.func135, rfl, by kernel_rfl, by kernel_rfl, by kernel_rfl, by decide +kernel, by kernel_rfl⟩⟩⟩
theorem ok136 : OkF Tryd.prog (dcOf Tryd.prog) 136 Zz.F_impl_nextInGroups_1 := Or.inl ⟨rfl, ⟨⟨Tryd.f136, _, Tryd.func136, rfl, by kernel_rfl, by kernel_rfl, by kernel_rfl, by decide +kernel, by kernel_rfl⟩⟩⟩
theorem ok137 : OkF Tryd.prog (dcOf Tryd.prog) 137 Zz.F_impl_valueAmong := Or.inl ⟨rfl, ⟨⟨Tryd.f137, _, Tryd.func137, rfl, by kernel_rfl, by kernel_rfl, by kernel_rfl, by decide +kernel, by kernel_rfl⟩⟩⟩
theorem ok138 : OkF Tryd.prog (dcOf Tryd.prog) 138 Zz.F_impl_statesWithYes := Or.inl ⟨rfl, ⟨⟨Tryd.f138, _, Tryd.func138, rfl, by kernel_rfl, by kernel_rfl, by kernel_rfl, by decide +kernel, by kernel_rfl⟩⟩⟩
theorem ok139 : OkF Tryd.prog (dcOf Tryd.prog) 139 Zz.F_slices_IndexFunc_int_int := Or.inl ⟨rfl, ⟨⟨Tryd.f139, _, Tryd.func139, rfl, by kernel_rfl, by kernel_rfl, by kernel_rfl, by decide +kernel, by kernel_rfl⟩⟩⟩
theorem ok140 : OkF Tryd.prog (dcOf Tryd.prog) 140 Zz.F_spec_GroupsOk := Or.inl ⟨rfl, ⟨⟨Tryd.f140, _, Tryd.func140, rfl, by kernel_rfl, by kernel_rfl, by kernel_rfl, by decide +kernel, by kernel_rfl⟩⟩⟩
theorem ok141 : OkF Tryd.prog (dcOf Tryd.prog) 141 Zz.F_spec_l7Inside := Or.inl ⟨rfl, ⟨⟨Tryd.f141, _, Tryd.func141, rfl, by kernel_rfl, by kernel_rfl, by kernel_rfl, by decide +kernel, by kernel_rfl⟩⟩⟩
theorem ok142 : OkF Tryd.prog (dcOf Tryd.prog) 142 Zz.F_impl_comesTo := Or.inl ⟨rfl, ⟨⟨Tryd.f142, _, Tryd.func142, rfl, by kernel_rfl, by kernel_rfl, by kernel_rfl, by decide +kernel, by kernel_rfl⟩⟩⟩
theorem ok143 : OkF Tryd.prog (dcOf Tryd.prog) 143 Zz.F_impl_firstOf := Or.inl ⟨rfl, ⟨⟨Tryd.f143, _, Tryd.func143, rfl, by kernel_rfl, by kernel_rfl, by kernel_rfl, by decide +kernel, by kernel_rfl⟩⟩⟩
theorem ok144 : OkF Tryd.prog (dcOf Tryd.prog) 144 Zz.F_impl_CostBy := Or.inl ⟨rfl, ⟨⟨Tryd.f144, _, Tryd.func144, rfl, by kernel_rfl, by kernel_rfl, by kernel_rfl, by decide +kernel, by kernel_rfl⟩⟩⟩
theorem ok153 : OkF Tryd.prog (dcOf Tryd.prog) 153 Zz.F_slices_rotateRight_int := Or.inl ⟨rfl, ⟨⟨Tryd.f153, _, Tryd.func153, rfl, by kernel_rfl, by kernel_rfl, by kernel_rfl, by decide +kernel, by kernel_rfl⟩⟩⟩
theorem ok154 : OkF Tryd.prog (dcOf Tryd.prog) 154 Zz.F_impl_statesSaying := Or.inl ⟨rfl, ⟨⟨Tryd.f154, _, Tryd.func154, rfl, by kernel_rfl, by kernel_rfl, by kernel_rfl, by decide +kernel, by kernel_rfl⟩⟩⟩
theorem ok157 : OkF Tryd.prog (dcOf Tryd.prog) 157 Zz.F_spec_l20Order := Or.inl ⟨rfl, ⟨⟨Tryd.f157, _, Tryd.func157, rfl, by kernel_rfl, by kernel_rfl, by kernel_rfl, by decide +kernel, by kernel_rfl⟩⟩⟩
set_option maxRecDepth 100000 in
theorem ok158 : OkF Tryd.prog (dcOf Tryd.prog) 158 Zz.F_slices_Insert_impl_askedGroup_impl_askedGroup := Or.inr ⟨(insPS 4), rfl, insS_sound askLays (by decide) (by kernel_rfl)⟩
theorem ok159 : OkF Tryd.prog (dcOf Tryd.prog) 159 Zz.F_slices_Contains_int_int := Or.inl ⟨rfl, ⟨⟨Tryd.f159, _, Tryd.func159, rfl, by kernel_rfl, by kernel_rfl, by kernel_rfl, by decide +kernel, by kernel_rfl⟩⟩⟩
set_option maxRecDepth 100000 in
theorem ok160 : OkF Tryd.prog (dcOf Tryd.prog) 160 Zz.F_slices_Grow_impl_Choice_impl_Choice := Or.inr ⟨(growP 3), rfl, grow_sound growLays (by kernel_rfl) growInfo rfl (by decide) (by decide) (by decide)⟩
theorem ok161 : OkF Tryd.prog (dcOf Tryd.prog) 161 Zz.F_impl_Choice_nextIn := Or.inl ⟨rfl, ⟨⟨Tryd.f161, _, Tryd.func161, rfl, by kernel_rfl, by kernel_rfl, by kernel_rfl, by decide +kernel, by kernel_rfl⟩⟩⟩
theorem ok165 : OkF Tryd.prog (dcOf Tryd.prog) 165 Zz.F_slices_rotateLeft_int := Or.inl ⟨rfl, ⟨⟨Tryd.f165, _, Tryd.func165, rfl, by kernel_rfl, by kernel_rfl, by kernel_rfl, by decide +kernel, by kernel_rfl⟩⟩⟩
theorem ok168 : OkF Tryd.prog (dcOf Tryd.prog) 168 Zz.F_slices_rotateRight_impl_askedGroup := Or.inl ⟨rfl, ⟨⟨Tryd.f168, _, Tryd.func168, rfl, by kernel_rfl, by kernel_rfl, by kernel_rfl, by decide +kernel, by kernel_rfl⟩⟩⟩
theorem ok169 : OkF Tryd.prog (dcOf Tryd.prog) 169 Zz.F_slices_Index_int_int := Or.inl ⟨rfl, ⟨⟨Tryd.f169, _, Tryd.func169, rfl, by kernel_rfl, by kernel_rfl, by kernel_rfl, by decide +kernel, by kernel_rfl⟩⟩⟩
theorem ok170 : OkF Tryd.prog (dcOf Tryd.prog) 170 Zz.F_slices_Reverse_int_int := Or.inl ⟨rfl, ⟨⟨Tryd.f170, _, Tryd.func170, rfl, by kernel_rfl, by kernel_rfl, by kernel_rfl, by decide +kernel, by kernel_rfl⟩⟩⟩
theorem ok171 : OkF Tryd.prog (dcOf Tryd.prog) 171 Zz.F_slices_rotateLeft_impl_askedGroup := Or.inl ⟨rfl, ⟨⟨Tryd.f171, _, Tryd.func171, rfl, by kernel_rfl, by kernel_rfl, by kernel_rfl, by decide +kernel, by kernel_rfl⟩⟩⟩
theorem ok172 : OkF Tryd.prog (dcOf Tryd.prog) 172 Zz.F_slices_Reverse_impl_askedGroup_impl_askedGroup := Or.inl ⟨rfl, ⟨⟨Tryd.f172, _, Tryd.func172, rfl, by kernel_rfl, by kernel_rfl, by kernel_rfl, by decide +kernel, by kernel_rfl⟩⟩⟩
theorem mixed : Tryd.prog.follows .mixedOrders = true := by kernel_rfl
theorem okAll : ∀ f F, Zz.lf f = some F → OkF Tryd.prog (dcOf Tryd.prog) f F := by
 intro f F h
 unfold Zz.lf at h
 split at h
 ·injection h with h; subst h; exact ok7
 ·injection h with h; subst h; exact ok15
 ·injection h with h; subst h; exact ok20
 ·injection h with h; subst h; exact ok21
 ·injection h with h; subst h; exact ok29
 ·injection h with h; subst h; exact ok33
 ·injection h with h; subst h; exact ok34
 ·injection h with h; subst h; exact ok35
 ·injection h with h; subst h; exact ok36
 ·injection h with h; subst h; exact ok37
 ·injection h with h; subst h; exact ok38
 ·injection h with h; subst h; exact ok39
 ·injection h with h; subst h; exact ok40
 ·injection h with h; subst h; exact ok47
 ·injection h with h; subst h; exact ok48
 ·injection h with h; subst h; exact ok49
 ·injection h with h; subst h; exact ok51
 ·injection h with h; subst h; exact ok52
 ·injection h with h; subst h; exact ok53
 ·injection h with h; subst h; exact ok58
 ·injection h with h; subst h; exact ok67
 ·injection h with h; subst h; exact ok68
 ·injection h with h; subst h; exact ok69
 ·injection h with h; subst h; exact ok70
 ·injection h with h; subst h; exact ok71
 ·injection h with h; subst h; exact ok72
 ·injection h with h; subst h; exact ok73
 ·injection h with h; subst h; exact ok74
 ·injection h with h; subst h; exact ok75
 ·injection h with h; subst h; exact ok78
 ·injection h with h; subst h; exact ok80
 ·injection h with h; subst h; exact ok82
 ·injection h with h; subst h; exact ok86
 ·injection h with h; subst h; exact ok87
 ·injection h with h; subst h; exact ok88
 ·injection h with h; subst h; exact ok89
 ·injection h with h; subst h; exact ok90
 ·injection h with h; subst h; exact ok91
 ·injection h with h; subst h; exact ok92
 ·injection h with h; subst h; exact ok93
 ·injection h with h; subst h; exact ok94
 ·injection h with h; subst h; exact ok95
 ·injection h with h; subst h; exact ok96
 ·injection h with h; subst h; exact ok97
 ·injection h with h; subst h; exact ok98
 ·injection h with h; subst h; exact ok106
 ·injection h with h; subst h; exact ok107
 ·injection h with h; subst h; exact ok109
 ·injection h with h; subst h; exact ok114
 ·injection h with h; subst h; exact ok115
 ·injection h with h; subst h; exact ok116
 ·injection h with h; subst h; exact ok117
 ·injection h with h; subst h; exact ok118
 ·injection h with h; subst h; exact ok119
 ·injection h with h; subst h; exact ok127
 ·injection h with h; subst h; exact ok128
 ·injection h with h; subst h; exact ok129
 ·injection h with h; subst h; exact ok130
 ·injection h with h; subst h; exact ok131
 ·injection h with h; subst h; exact ok132
 ·injection h with h; subst h; exact ok133
 ·injection h with h; subst h; exact ok134
 ·injection h with h; subst h; exact ok135
 ·injection h with h; subst h; exact ok136
 ·injection h with h; subst h; exact ok137
 ·injection h with h; subst h; exact ok138
 ·injection h with h; subst h; exact ok139
 ·injection h with h; subst h; exact ok140
 ·injection h with h; subst h; exact ok141
 ·injection h with h; subst h; exact ok142
 ·injection h with h; subst h; exact ok143
 ·injection h with h; subst h; exact ok144
 ·injection h with h; subst h; exact ok153
 ·injection h with h; subst h; exact ok154
 ·injection h with h; subst h; exact ok157
 ·injection h with h; subst h; exact ok158
 ·injection h with h; subst h; exact ok159
 ·injection h with h; subst h; exact ok160
 ·injection h with h; subst h; exact ok161
 ·injection h with h; subst h; exact ok165
 ·injection h with h; subst h; exact ok168
 ·injection h with h; subst h; exact ok169
 ·injection h with h; subst h; exact ok170
 ·injection h with h; subst h; exact ok171
 ·injection h with h; subst h; exact ok172
 ·cases h
theorem said {f : Nat} {args : List DV} {r : DV × List DV} (h : call Zz.lf f args = some r) : CallSpec Tryd.prog f args r := call_sound okAll (draw_ok mixed) h
end Go.Proofs.YtahkmbihhkjebabDoor.oks
